import PyProof.Rows.All
import Wide.All
import OpenK.AllK
import Wide.FinOn
import HandS.ForMost
import HandS.IsInst
import HandS.Conv
import HandS.Zip
import HandS.Strs
import HandS.Flow
import HandS.Codes
import HandS.SetKeys
import HandS.Walk
import HandS.StrMore
import HandS.Defaults
import KE.SortData
import KE.LtData
import KE.KMathGC
import HandS.Gcd
import KE.DataFind
import HandS.SetFor
import HandS.Style
import KE.DatumOrd
import PySem.Challenge.RW_piercednames_k03_positions_between
set_option Elab.async false
set_option linter.all false
set_option maxRecDepth 100000
/-! part Kit1 -/
/-! My own rows over the layer: a list that is sealed (its content hidden behind a predicate), draws as free choices. -/
namespace My
open PySem PySem.Spec PyProof.Rows L2

/-- the predicate of a sealed list at a: some content that is so -/
def sealP (a : Addr) (φ : List V → Prop) : Heap → Prop := fun h => ∃ xs : List V, φ xs ∧ xs.length ≤ sizeLine ∧ ∃ (its : List Value) (n : Nat), Vals xs its ∧ h.get? a = some { cls := .type "list", data := .seq its.toArray n }
abbrev Seal (a : Addr) (φ : List V → Prop) : HO := .ext (sealP a φ)
theorem sealP_stay {a : Addr} {φ : List V → Prop} (h1 h2 : Heap) (p : sealP a φ h1) (k : ∀ o, h1.get? a = some o → h2.get? a = some o) : sealP a φ h2 := by
  obtain ⟨xs, p1, p2, its, n, r, e⟩ := p
  exact ⟨xs, p1, p2, its, n, r, k _ e⟩

section
variable {P : Program} {w : World} {K : PySem.W.Frag} {mg : Str → Option Value} {base : Heap}
/-- a list is sealed -/
theorem hok_seal {H : Hp} {h : Heap} {a : Addr} {φ : List V → Prop} {xs : List V} (ok : HOk P w H h) (e : H a = some (.lst xs)) (p : φ xs) : HOk P w (upd H a (Seal a φ)) h := fun b o q => by
  by_cases hb : b = a
  · subst hb
    rw [upd_same] at q
    cases q
    obtain ⟨z, its, n, r, eo⟩ := (show ObjOk P w H h b (.lst xs) from ok b _ e)
    exact ⟨⟨xs, p, z, its, n, r, eo⟩, ⟨_, eo⟩, fun h1 h2 => sealP_stay h1 h2⟩
  · rw [upd_ne hb] at q
    refine (ok b o q).stay (fun _ _ _ r => r) (fun c r => ?_) (fun c ys r => ?_)
    · rw [upd_ne (ne_of r e (by intro z; cases z))]; exact r
    · rw [upd_ne (ne_of r e (by intro z; cases z))]; exact r
theorem hok_open {H : Hp} {h : Heap} {a : Addr} {φ : List V → Prop} (ok : HOk P w H h) (e : H a = some (Seal a φ)) : ∃ xs, φ xs ∧ HOk P w (upd H a (.lst xs)) h := by
  obtain ⟨⟨xs, p, z, its, n, r, eo⟩, _, _⟩ := (show ObjOk P w H h a (Seal a φ) from ok a _ e)
  refine ⟨xs, p, fun b o q => ?_⟩
  by_cases hb : b = a
  · subst hb
    rw [upd_same] at q
    cases q
    exact ⟨z, its, n, r, eo⟩
  · rw [upd_ne hb] at q
    refine (ok b o q).stay (fun _ _ _ r => r) (fun c r => ?_) (fun c ys r => ?_)
    · rw [upd_ne (ne_of r e (by intro z; cases z))]; exact r
    · rw [upd_ne (ne_of r e (by intro z; cases z))]; exact r
theorem none_upd {H : Hp} {a b : Addr} {o u : HO} (e : H a = some o) (h : H b = none) : upd H a u b = none := by
  rw [upd_ne (fun z => by subst z; rw [e] at h; cases h)]; exact h
/-- THE RULE: a def that works on the open list keeps the promise over the sealed one -/
theorem fn_seal {k : Nat} {f : Addr} {fd : FuncData} {ps : List Str} {sp sp' : Sp} (F : FnOk P w K mg base CX0 k f fd ps sp)
    (len : ∀ vs H Q E, sp' vs H Q E → vs.length = ps.length)
    (h : ∀ vs H Q E, sp' vs H Q E → ∃ (a : Addr) (φ : List V → Prop), H a = some (Seal a φ) ∧ ∀ xs, φ xs → sp vs (upd H a (.lst xs)) (fun v H' => ∃ ys, H' a = some (.lst ys) ∧ φ ys ∧ Q v (upd H' a (Seal a φ))) E) :
    FnOk P w K mg base CX0 k f fd ps sp' := by
  refine ⟨len, fun A outer s H args us vs Q E hr he hb hv hs => ?_⟩
  obtain ⟨a, φ, e, h⟩ := h vs H Q E hs
  obtain ⟨xs, p, ok⟩ := hok_open he.hok e
  have he1 : Env0 P w K mg base A outer s (upd H a (.lst xs)) :=
    ⟨he.frames, he.mod, fun b o q => ⟨(he.bs b o q).1, none_upd e (he.bs b o q).2⟩, he.bsz, he.funs, fun b hb => none_upd e (he.frf b hb), ok, he.bare⟩
  have R := F.run A outer s (upd H a (.lst xs)) args us vs _ E hr he1 hb hv (h xs p)
  refine codeAny_mono R fun r s' c => ?_
  cases r with
  | error x => exact (show False from c).elim
  | ok fl =>
    cases fl with
    | ret u =>
      obtain ⟨v, H', h1, h2, h3, h4, h5, ys, h6, h7, h8⟩ := c
      refine ⟨v, upd H' a (Seal a φ), h1, h2, ?_, hok_seal h4 h6 h7, h5, h8⟩
      have nn : ∀ b, H b = none → upd H a (.lst xs) b = none := fun b q => none_upd e q
      have ne : ∀ b o, H b = some o → (∀ ψ, o ≠ .ext ψ) → b ≠ a := fun b o q n => ne_of q e (n _)
      refine ⟨fun b o q n i j => h3.keep b o q (nn b n) i j, fun b o q n i j => h3.slot b o q (nn b n) i j, fun b o q n j => none_upd h6 (h3.free b o q (nn b n) j), fun b o q j => h3.there b o q j, fun b ys q => ?_, fun b o u q => ?_, fun b ps q => ?_⟩
      · have z := ne b _ q (fun ψ z => by cases z)
        rw [upd_ne z]; exact h3.tups b ys (by rw [upd_ne z]; exact q)
      · have z := ne b _ q (fun ψ z => by cases z)
        rw [upd_ne z]; exact h3.frzs b o u (by rw [upd_ne z]; exact q)
      · have z := ne b _ q (fun ψ z => by cases z)
        rw [upd_ne z]; exact h3.tbls b ps (by rw [upd_ne z]; exact q)
    | _ => exact c
end
end My
/-! part SetMk -/
/-! set(xs) of a list or a tuple of any keys, any number below the scan's bound (own proof; the library has it for ints, and for at most one text) -/
namespace My
open PySem PySem.Spec PyProof.Rows L2
section
variable {prog : Program} {w : World} {κ : Type} [DecidableEq κ] (knd : KeyKind prog w κ)
/-- the set at a has met the first i keys -/
def Met (a : Addr) (ks : List κ) (i : Nat) (h : Heap) : Prop := ∃ (S : κ → Bool) (n : Nat), h.SetOf knd a S n ∧ n ≤ i ∧ ∀ k, S k = true ↔ k ∈ ks.take i
variable {knd}
theorem Met.at {a : Addr} {ks : List κ} {i : Nat} {g h : Heap} (m : Met knd a ks i g) (k : ∀ o, g.get? a = some o → h.get? a = some o) : Met knd a ks i h := by
  obtain ⟨S, n, ⟨o, es, ep, t, ho, r⟩, z⟩ := m
  exact ⟨S, n, ⟨o, es, ep, t, k o ho, r⟩, z⟩
variable {A : Around} {R : Result → Shared → Prop} {it a : Addr} {fp wr : List Addr} {G : Array GenState → Array GenState → Prop} {n : Nat} {Pv : Nat → Value → Prop} {St : Nat → Shared → Prop}
/-- the turns that are left: each item is added -/
theorem met_all (W : WalksS prog w A.in1 it fp wr G n Pv St) (off : a ∉ fp) (ks : List κ) (room : n + 1 < scanBound)
    (is : ∀ i v, Pv i v → ∃ k, ks[i]? = some k ∧ knd.is k v = true ∧ v.scannable = true) (d : Nat) : ∀ (i : Nat) (s : Shared), i + d = n → St i s → Met knd a ks i s.heap →
      (∀ z, Moved (a :: wr) G s z → Met knd a ks n z.heap → R (.ok (.ret .none)) z) → codeAny (model prog w) A (.builtin "set.update.loop" ⟨[.ref a, .ref it], []⟩) R s := by
  have offw : a ∉ wr := fun q => off (W.sub a q)
  have wide : ∀ b ∈ wr, b ∈ a :: wr := fun b q => List.mem_cons_of_mem a q
  induction d with
  | zero =>
    intro i s e st m fin
    obtain rfl : i = n := by omega
    refine codeAny_builtin PyProof.Rows.F.entry_set_update_loop ?_
    rw [Around.under_plainId PyProof.Rows.F.plain_set_update_loop _]
    show wpAny (model prog w) A.in1 (pyNext (.ref it) >>= _) _ _ s
    refine wpAny_bind (W.done s _ _ st fun z mv => ?_)
    show wpAny (model prog w) A.in1 (ret Value.none) _ _ z
    exact wpAny_pure (fin z (mv.mono wide) (m.at fun o q => mv.heap a o offw q))
  | succ d ih =>
    intro i s e st m fin
    refine codeAny_builtin PyProof.Rows.F.entry_set_update_loop ?_
    rw [Around.under_plainId PyProof.Rows.F.plain_set_update_loop _]
    show wpAny (model prog w) A.in1 (pyNext (.ref it) >>= _) _ _ s
    refine wpAny_bind (W.item i s _ _ (by omega) st fun v z pv st' mv => ?_)
    obtain ⟨k, hk, ik, sc⟩ := is i v pv
    obtain ⟨S, c, so, cn, mem⟩ := m.at (h := z.heap) fun o q => mv.heap a o offw q
    show wpAny (model prog w) A.in1 (holding [v] (setAdd a v) >>= _) _ _ z
    refine wpAny_bind (wpAny_holding ?_)
    unfold setAdd
    refine wpAny_holding (wpAny_bind (knd.pyHash ik ?_))
    refine wpAny_setAddHashed_of (knd := knd) (s := { z with toks := z.toks + 1 }) ik sc so (by omega) fun h2 same so2 => ?_
    have m2 : Met knd a ks (i + 1) h2 := by
      refine ⟨_, _, so2, by split <;> omega, fun q => ?_⟩
      rw [List.take_add_one, hk, List.mem_append]
      show (S q || decide (q = k)) = true ↔ q ∈ ks.take i ∨ q ∈ [k]
      rw [Bool.or_eq_true, mem q, decide_eq_true_eq, List.mem_singleton]
    have far : ∀ b ∈ fp, b ≠ a := fun b hb q => off (q ▸ hb)
    refine wpAny_pure ⟨plainId_quiet PyProof.Rows.F.plain_set_update_loop _, ih (i + 1) _ (by omega) (W.frame (i + 1) z h2 _ st' (Nat.le_succ _) fun b hb o q => (same.2 b (far b hb)).trans q) m2 fun y mv2 m3 => fin y ?_ m3⟩
    exact Moved.trans W.gtrans ((mv.mono wide).then_heap (Nat.le_succ _) fun b o hb q => (same.2 b fun u => hb (u ▸ List.mem_cons_self)).trans q) mv2
end
section
variable {prog : Program} {w : World} {κ : Type} [DecidableEq κ] [BEq κ] [LawfulBEq κ] {knd : KeyKind prog w κ} {A : Around} {E : Value → Shared → Prop} {s : Shared}
/-- an empty set's object -/
abbrev setEmpty (led : Bool) : Obj := { cls := .type "set", dict := none, data := .set #[] 0 (.fresh 0 0 led) }
theorem met_none (led : Bool) {a : Addr} {ks : List κ} {h : Heap} (e : h.get? a = some (setEmpty led)) : Met knd a ks 0 h :=
  ⟨_, _, (PyProof.Rows.setObjOf_fresh (knd := knd) led).setOf e (by decide), Nat.le_refl 0, fun k => by simp⟩
set_option maxHeartbeats 3200000 in
/-- set(x), x a list or a tuple -/
theorem set_of (l : Addr) (items : Array Value) (ks : List κ) {Q : Value → Shared → Prop} (calm : A.handled = none) (src : s.heap.IsList l items ∨ s.heap.IsTuple l items) (room : items.size + 1 < scanBound)
    (is : ∀ (i : Nat) (v : Value), items[i]? = some v → ∃ k, ks[i]? = some k ∧ knd.is k v = true ∧ v.scannable = true)
    (fin : ∀ (h : Heap) (t : Nat), Met knd s.heap.objs.size ks items.size h → (∀ b o, b < s.heap.objs.size → s.heap.get? b = some o → h.get? b = some o) → Q (.ref s.heap.objs.size) { s with heap := h, toks := t }) :
    wpAny (model prog w) A (call (.type "set") [.ref l]) Q E s := by
  let a := s.heap.objs.size
  obtain ⟨c, tl, u1⟩ := PySem.F.called_set.mro
  have u2 := PySem.F.called_set.made
  have u3 := PySem.F.called_set.sub
  refine wpAny_call (codeAny_of_tree ((wpAny_pure ⟨Code.quiet_builtin _ (by decide +kernel), codeAny_builtin PySem.F.entry_type_call ?_⟩ : wpAny _ _ (callAny (.type "set") _) _ _ _)))
  rw [Around.under_plain (weight_type_call_type "set" [.ref l] []) rfl]
  have u4 := PySem.F.called_set.notType
  have u5 := PySem.F.called_set.canCreate
  have u6 := PySem.F.typeCall_set_1 (.ref l)
  repeat (any_goals (first | assumption | wp_step))
  refine codeAny_mono (code_set_new_1 (.ref l) (E := E) (Q₁ := fun o z => ∃ led : Bool, o = .ref a ∧ z = { s with heap := s.heap.push (setEmpty led) }) fun led => ⟨led, rfl, rfl⟩) fun r z hr => ?_
  rcases r with e | fl
  · exact hr
  cases fl with
  | ret o =>
    obtain ⟨led, rfl, rfl⟩ := hr
    have ea : (s.heap.push (setEmpty led)).get? a = some (setEmpty led) := Heap.get?_push_size _ rfl
    have ty : Shared.TypeIs { s with heap := s.heap.push (setEmpty led) } (.ref a) "set" := ⟨_, ea, rfl⟩
    have u7 := PySem.F.called_set.init.lookup
    have u8 := PySem.F.called_set.init.bind (.ref a)
    repeat (any_goals (first | assumption | wp_step))
    refine codeAny_mono (codeAny_call_builtin (R := wants (fun r z => r = .none ∧ ∃ h t, z = { s with heap := h, toks := t } ∧ Met knd a ks items.size h ∧ ∀ b o, b < a → s.heap.get? b = some o → h.get? b = some o) E)
      PySem.F.called_set.init.plain PySem.F.entry_set_init (check_set_init_1 ty ?_)) fun r z hr => ?_
    · have far : ∀ {b : Addr}, b < a → b ≠ (s.heap.push (setEmpty led)).objs.size := fun {b} hb => by
        rw [Heap.size_push]
        exact Nat.ne_of_lt (Nat.lt_succ_of_lt hb)
      have off : ∀ {b : Addr}, b < a → a ∉ [(s.heap.push (setEmpty led)).objs.size, b] := fun {b} hb hm => by
        rw [Heap.size_push] at hm
        rcases List.mem_cons.mp hm with q | q
        · exact Nat.ne_of_lt (Nat.lt_succ_self a) q
        · exact Nat.ne_of_gt hb (List.mem_singleton.mp q)
      have close : ∀ (z : Shared) (o : Obj), Moved [a, (s.heap.push (setEmpty led)).objs.size] (fun x y => y = x) { s with heap := (s.heap.push (setEmpty led)).push o } z → Met knd a ks items.size z.heap →
          ∃ (h : Heap) (t : Nat), z = { s with heap := h, toks := t } ∧ Met knd a ks items.size h ∧ ∀ b o, b < a → s.heap.get? b = some o → h.get? b = some o := fun z o mv m => by
        obtain ⟨h, g, dr, t, os⟩ := z
        have e1 : g = s.gens := mv.gens
        have e2 : dr = s.drawn := mv.drawn
        have e3 : os = s.os := mv.os
        subst e1 e2 e3
        refine ⟨h, t, rfl, m, fun b o hb q => mv.heap b o (fun hm => ?_) (Heap.get?_push_of_some _ (Heap.get?_push_of_some _ q))⟩
        rcases List.mem_cons.mp hm with u | u
        · exact Nat.ne_of_lt hb u
        · exact far hb (List.mem_singleton.mp u)
      rcases src with src | src
      · obtain ⟨ol, p1, p2, nl, p3⟩ := src
        have low : l < a := Heap.lt_size p1
        obtain ⟨oc, od, oda, osl⟩ := ol
        simp only at p2 p3
        subst p2 p3
        have p4 : (s.heap.push (setEmpty led)).get? l = some ⟨.type "list", od, .seq items nl, osl⟩ := Heap.get?_push_of_some _ p1
        have u9 := PySem.F.sub_list_set
        have u10 := PySem.F.sub_list_frozenset
        have u11 : (Value.type "list" == Value.type "dict") = false := by decide
        have p5 : (s.heap.push (setEmpty led)).IsList l items := ⟨_, p4, rfl, nl, rfl⟩
        unfold Builtin.«set.__init__» noKeywords Builtin.Frozenset.updateFrom
        generalize hide : pyIter = PI
        wp_walk
        subst hide
        refine wpAny_pyIter_list p5 (wpAny_bind (wpAny_runValue ?_))
        refine met_all ((Walks.list (show A.in1.in1.in1.handled = none by simp [calm]) _ l (far low) items).toS) (off low) ks room is items.size 0 _ (Nat.zero_add _) ⟨⟨_, Heap.get?_push_size _ rfl, rfl, rfl⟩, p5.push _⟩ (met_none led (Heap.get?_push_of_some _ ea)) fun z mv m => ?_
        show wpAny _ _ _ _ _ z
        refine wpAny_pure ?_
        show wpAny _ _ (ret Value.none) _ _ z
        exact wpAny_pure ⟨rfl, close z _ mv m⟩
      · obtain ⟨ol, p1, p2, nl, p3⟩ := src
        have low : l < a := Heap.lt_size p1
        obtain ⟨oc, od, oda, osl⟩ := ol
        simp only at p2 p3
        subst p2 p3
        have p4 : (s.heap.push (setEmpty led)).get? l = some ⟨.type "tuple", od, .seq items nl, osl⟩ := Heap.get?_push_of_some _ p1
        have u9 := PySem.F.sub_tuple_set
        have u10 := PySem.F.sub_tuple_frozenset
        have u11 : (Value.type "tuple" == Value.type "dict") = false := by decide
        have p5 : (s.heap.push (setEmpty led)).IsTuple l items := ⟨_, p4, rfl, nl, rfl⟩
        unfold Builtin.«set.__init__» noKeywords Builtin.Frozenset.updateFrom
        generalize hide : pyIter = PI
        wp_walk
        subst hide
        refine wpAny_pyIter_tuple p5 (wpAny_bind (wpAny_runValue ?_))
        refine met_all ((Walks.tuple (show A.in1.in1.in1.handled = none by simp [calm]) _ l (far low) items).toS) (off low) ks room is items.size 0 _ (Nat.zero_add _) ⟨⟨_, Heap.get?_push_size _ rfl, rfl, rfl⟩, p5.push _⟩ (met_none led (Heap.get?_push_of_some _ ea)) fun z mv m => ?_
        show wpAny _ _ _ _ _ z
        refine wpAny_pure ?_
        show wpAny _ _ (ret Value.none) _ _ z
        exact wpAny_pure ⟨rfl, close z _ mv m⟩
    · rcases r with e | fl2
      · exact hr
      cases fl2 with
      | ret r =>
        obtain ⟨rfl, h, t, rfl, m, k⟩ := hr
        repeat (any_goals (first | assumption | wp_step))
        exact fin h t m k
      | _ => exact hr.elim
  | _ => exact hr.elim
end
end My
/-! part Kit2 -/
namespace My
open PySem PySem.Spec PyProof.Rows L2

theorem same_new {H : Hp} {p : Addr} (h : H p = none) (o : HO) : Same H (upd H p o) := fun b u q => by rw [upd_ne (ne_of_none q h)]; exact q
theorem upd_self {H : Hp} {a : Addr} {o : HO} (h : H a = some o) : upd H a o = H := by
  funext b
  unfold upd
  split
  · rename_i e; rw [e, h]
  · rfl
theorem fmod_lo (x : Int) {k : Int} (h : 0 < k) : 0 ≤ x.fmod k := by
  rw [Int.fmod_eq_emod_of_nonneg _ (Int.le_of_lt h)]
  exact Int.emod_nonneg _ (by omega)
theorem fmod_hi (x : Int) {k : Int} (h : 0 < k) : x.fmod k < k := by
  rw [Int.fmod_eq_emod_of_nonneg _ (Int.le_of_lt h)]
  exact Int.emod_lt_of_pos _ h

/-! ### the bag of draws -/
/-- its five items: the cells at l, how many of k were taken, the rest of a great one, the mixed number, the draws -/
def bagF (l : Addr) (k : Nat) : List V → Prop := fun xs => ∃ i g m n : Int, xs = [.ref l, .int i, .int g, .int m, .int n] ∧ 0 ≤ i ∧ i ≤ (k : Int) ∧ 0 ≤ m ∧ m < 2147483629
/-- a bag stands at a -/
def IsBag (H : Hp) (a : Addr) : Prop := ∃ (l : Addr) (ns : List Int), H l = some (.lst (ns.map V.int)) ∧ ns.length ≤ 63 ∧ H a = some (Seal a (bagF l ns.length))
theorem IsBag.same {H H' : Hp} {a : Addr} (b : IsBag H a) (s : Same H H') : IsBag H' a := by
  obtain ⟨l, ns, h1, h2, h3⟩ := b
  exact ⟨l, ns, s _ _ h1, h2, s _ _ h3⟩
/-- the open one, as the def of the draws sees it -/
def spDraw0 : Sp := fun vs H Q _ => ∃ (a l : Addr) (ns : List Int) (k : Int) (xs : List V), vs = [.ref a, .int k] ∧ H l = some (.lst (ns.map V.int)) ∧ H a = some (.lst xs) ∧ l ≠ a ∧ bagF l ns.length xs ∧ 0 < k ∧ k < 1073741824 ∧
  ∀ (d : Int) (ys : List V), 0 ≤ d → d < k → bagF l ns.length ys → Q (.int d) (upd H a (.lst ys))
/-- a draw below k: any number -/
def spDraw : Sp := fun vs H Q _ => ∃ (a : Addr) (k : Int), vs = [.ref a, .int k] ∧ IsBag H a ∧ 0 < k ∧ k < 1073741824 ∧ ∀ d : Int, 0 ≤ d → d < k → Q (.int d) H
theorem draw_sealed {P : Program} {w : World} {K : PySem.W.Frag} {mg : Str → Option Value} {base : Heap} {k : Nat} {f : Addr} {fd : FuncData} {ps : List Str}
    (F : FnOk P w K mg base CX0 k f fd ps spDraw0) (h2 : ps.length = 2) : FnOk P w K mg base CX0 k f fd ps spDraw := by
  refine fn_seal F (fun vs H Q E h => ?_) (fun vs H Q E h => ?_)
  · obtain ⟨a, k, rfl, _⟩ := h
    exact h2.symm
  · obtain ⟨a, k, rfl, ⟨l, ns, hl, hn, ha⟩, h0, h1, q⟩ := h
    have la : l ≠ a := ne_of hl ha (by intro z; cases z)
    refine ⟨a, _, ha, fun xs hx => ⟨a, l, ns, k, xs, rfl, ?_, upd_same, la, hx, h0, h1, fun d ys hd hk hy => ⟨ys, upd_same, hy, ?_⟩⟩⟩
    · rw [upd_ne la]; exact hl
    · rw [upd_upd, upd_upd, upd_self ha]; exact q d hd hk
/-- an item drawn out of a list or a text -/
def spOf (K : PySem.W.Frag) : Sp := fun vs H Q _ => ∃ (a p : Addr) (xs : List V), vs = [.ref a, .ref p] ∧ IsBag H a ∧ SqL K H p xs ∧ 0 < xs.length ∧ xs.length ≤ 1000000 ∧ ∀ (i : Nat) (v : V), xs[i]? = some v → Q v H

/-- a def that hands back a new list, which is then sealed -/
theorem fn_seal_ret {P : Program} {w : World} {K : PySem.W.Frag} {mg : Str → Option Value} {base : Heap} {k : Nat} {f : Addr} {fd : FuncData} {ps : List Str} {sp sp' : Sp} (F : FnOk P w K mg base CX0 k f fd ps sp)
    (len : ∀ vs H Q E, sp' vs H Q E → vs.length = ps.length)
    (h : ∀ vs H Q E, sp' vs H Q E → sp vs H (fun v H' => ∃ (a : Addr) (φ : List V → Prop) (ys : List V), H' a = some (.lst ys) ∧ φ ys ∧ Q v (upd H' a (Seal a φ))) E) :
    FnOk P w K mg base CX0 k f fd ps sp' := by
  refine ⟨len, fun A outer s H args us vs Q E hr he hb hv hs => ?_⟩
  have R := F.run A outer s H args us vs _ E hr he hb hv (h vs H Q E hs)
  refine codeAny_mono R fun r s' c => ?_
  cases r with
  | error x => exact (show False from c).elim
  | ok fl =>
    cases fl with
    | ret u =>
      obtain ⟨v, H', h1, h2, h3, h4, h5, a, φ, ys, h6, h7, h8⟩ := c
      refine ⟨v, upd H' a (Seal a φ), h1, h2, ?_, hok_seal h4 h6 h7, h5, h8⟩
      refine ⟨fun b o q n i j => h3.keep b o q n i j, fun b o q n i j => h3.slot b o q n i j, fun b o q n j => none_upd h6 (h3.free b o q n j), fun b o q j => h3.there b o q j, fun b zs q => ?_, fun b o z q => ?_, fun b zs q => ?_⟩
      · have z := h3.tups b zs q
        rw [upd_ne (ne_of z h6 (by intro y; cases y))]; exact z
      · have z := h3.frzs b o z q
        rw [upd_ne (ne_of z h6 (by intro y; cases y))]; exact z
      · obtain ⟨m, z⟩ := h3.tbls b zs q
        exact ⟨m, by rw [upd_ne (ne_of z h6 (by intro y; cases y))]; exact z⟩
    | _ => exact c
def spBag0 (K : PySem.W.Frag) : Sp := fun vs H Q _ => ∃ (a : Addr) (ns : List Int), vs = [.ref a] ∧ SqL K H a (ns.map V.int) ∧ ns.length ≤ 63 ∧ ∀ (H' : Hp) (b l : Addr) (ms : List Int) (ys : List V), Same H H' → H b = none → H' l = some (.lst (ms.map V.int)) → ms.length ≤ 63 → H' b = some (.lst ys) → bagF l ms.length ys → l ≠ b → Q (.ref b) H'
/-- the bag of a script: new -/
def spBag (K : PySem.W.Frag) : Sp := fun vs H Q _ => ∃ (a : Addr) (ns : List Int), vs = [.ref a] ∧ SqL K H a (ns.map V.int) ∧ ns.length ≤ 63 ∧ ∀ (H' : Hp) (b : Addr), Same H H' → H b = none → IsBag H' b → Q (.ref b) H'
theorem bag_sealed {P : Program} {w : World} {K : PySem.W.Frag} {mg : Str → Option Value} {base : Heap} {k : Nat} {f : Addr} {fd : FuncData} {ps : List Str}
    (F : FnOk P w K mg base CX0 k f fd ps (spBag0 K)) (h2 : ps.length = 1) : FnOk P w K mg base CX0 k f fd ps (spBag K) := by
  refine fn_seal_ret F (fun vs H Q E h => ?_) (fun vs H Q E h => ?_)
  · obtain ⟨a, ns, rfl, _⟩ := h
    exact h2.symm
  · obtain ⟨a, ns, rfl, hs, hn, q⟩ := h
    refine ⟨a, ns, rfl, hs, hn, fun H' b l ms ys sm nb hl hm hb hf lb => ⟨b, _, ys, hb, hf, q _ b ?_ nb ⟨l, ms, ?_, hm, upd_same⟩⟩⟩
    · intro c o e
      rw [upd_ne (ne_of_none e nb)]
      exact sm c o e
    · rw [upd_ne lb]; exact hl
theorem cut_map (ns : List Int) (lo hi : Option Int) : ∃ ms : List Int, cutV (ns.map V.int) lo hi = ms.map V.int ∧ ms.length ≤ ns.length := by
  refine ⟨(ns.drop (HT.sIx (ns.map V.int).length 0 lo)).take (HT.sIx (ns.map V.int).length (ns.map V.int).length hi - HT.sIx (ns.map V.int).length 0 lo), ?_, ?_⟩
  · unfold cutV
    rw [List.map_take, List.map_drop]
  · rw [List.length_take, List.length_drop]
    omega
theorem small63 {n : Nat} (h : n ≤ 1000) : n ≤ sizeLine := Nat.le_of_lt (small1000 h)
end My
/-! part Kit3 -/
namespace My
open PySem PySem.Spec PyProof.Rows L2
section
variable {X : Cx} (K : PySem.W.Frag) (h : X.K = K := by rfl)
include h
theorem k_ix_list : IxR X (rIxL K) := by subst h; exact ix_list
theorem k_ix_tup : IxR X (rIxT K) := by subst h; exact ix_tup
theorem k_op_in_seq : OpR X (compareOp .In) (rIn K false) := by subst h; exact op_in_seq
theorem k_op_notIn_seq : OpR X (compareOp .NotIn) (rIn K true) := by subst h; exact op_notIn_seq
theorem k_call_len_seq : CallR X (.builtin "len") (fun xs H Q => ∃ p ys, xs = [.ref p] ∧ (SqL K H p ys ∨ SqT K H p ys) ∧ Q (.int ys.length) H) := by subst h; exact call_len_seq
theorem k_sl_list : SlR X (rSlL K) := by subst h; exact sl_list
theorem k_sl_tup : SlR X (rSlT K) := by subst h; exact sl_tup
theorem k_call_list_of : CallR X (.type "list") (fun xs H Q => ∃ p ys, xs = [.ref p] ∧ (SqL K H p ys ∨ SqT K H p ys) ∧ ∀ l, H l = none → Q (.ref l) (upd H l (.lst ys))) := by subst h; exact call_list_of
theorem k_call_tuple_of : CallR X (.type "tuple") (fun xs H Q => ∃ p ys, xs = [.ref p] ∧ ((SqL K H p ys ∧ ∀ l, H l = none → Q (.ref l) (upd H l (.tup ys))) ∨ (SqT K H p ys ∧ Q (.ref p) H))) := by subst h; exact call_tuple_of
theorem k_op_catT : OpR X (binaryOp .Add) (rCatT K) := by subst h; exact op_catT
theorem k_call_isi : CallR X (.builtin "isinstance") (rIsi K) := by subst h; exact call_isi
theorem k_call_isiT : CallR X (.builtin "isinstance") (rIsiT K) := by subst h; exact call_isiT
theorem k_op_eqD (hu : X.A.units + 64 < cLine) : OpR X (compareOp .Eq) (rEqD K) := by subst h; exact op_eqD hu
theorem k_op_neD (hu : X.A.units + 64 < cLine) : OpR X (compareOp .NotEq) (rNeD K) := by subst h; exact op_neD hu
end
section
variable {X : Cx} (K : PySem.W.Frag) (h : X.K = K := by rfl) (hc : X.calm = true := by rfl)
include h hc
theorem k_cr_all : CallR X (.builtin "all") (rAll K) := by subst h; exact cr_all hc
theorem k_cr_any : CallR X (.builtin "any") (rAny K) := by subst h; exact cr_any hc
theorem k_cr_sum : CallR X (.builtin "sum") (rSum K) := by subst h; exact cr_sum hc
end
theorem _root_.L2.Same.seqT {K : PySem.W.Frag} {H H' : Hp} {a : Addr} {xs : List V} (e : Same H H') (h : SqT K H a xs) : SqT K H' a xs := by
  rcases h with (h | ⟨o, h⟩) | h
  · exact .inl (.inl (e _ _ h))
  · exact .inl (.inr ⟨o, e _ _ h⟩)
  · exact .inr h
theorem ty_list {K : PySem.W.Frag} {H : Hp} {a : Addr} {xs : List V} (h : SqL K H a xs) : TyX K H (.ref a) (.type "list") := by
  rcases h with (h | ⟨o, h⟩) | ⟨o, _, _, h, c, _⟩
  · exact .base (.lst h)
  · exact .base (.frz h)
  · exact .kList h c
theorem ty_tuple {K : PySem.W.Frag} {H : Hp} {a : Addr} {xs : List V} (h : SqT K H a xs) : TyX K H (.ref a) (.type "tuple") := by
  rcases h with (h | ⟨o, h⟩) | ⟨o, _, _, h, c, _⟩
  · exact .base (.tup h)
  · exact .fTuple h
  · exact .kTuple h c
theorem walk_zipT {K : PySem.W.Frag} {a b : Addr} {xs ys : List V} {n : Nat} (hn : n = min xs.length ys.length) : Walk (RZ.ItzT K a b) n (fun H => SqT K H a xs ∧ SqT K H b ys) (YPair (fun i => xs[i]?) (fun i => ys[i]?)) := by
  subst hn
  refine ⟨fun i H hi q => ?_, fun H q => ⟨xs, ys, q.1, q.2, by omega⟩, fun i H v H' hi q y => ?_⟩
  · have u1 : i < xs.length := by omega
    have u2 : i < ys.length := by omega
    exact ⟨xs, ys, xs[i], ys[i], q.1, q.2, by simp [u1], by simp [u2]⟩
  · obtain ⟨T, x, z, u1, u2, u3, u4, u5⟩ := y
    exact ⟨T, x, z, u1, u2, u3, u4 xs q.1, u5 ys q.2⟩
def scalV : V → Bool
  | .non => true
  | .bl _ => true
  | .int _ => true
  | .str _ => true
  | _ => false
/-- v and w are the same data, at most n deep -/
def Eqv (K : PySem.W.Frag) (H : Hp) : Nat → V → V → Prop
  | 0, _, _ => False
  | n + 1, v, w => (v = w ∧ scalV v = true) ∨
    (∃ (a b : Addr) (xs ys : List V), v = .ref a ∧ w = .ref b ∧ SqL K H a xs ∧ SqL K H b ys ∧ xs.length = ys.length ∧ xs.length < sizeLine ∧ ∀ (i : Nat) (x y : V), xs[i]? = some x → ys[i]? = some y → Eqv K H n x y) ∨
    (∃ (a b : Addr) (xs ys : List V), v = .ref a ∧ w = .ref b ∧ SqT K H a xs ∧ SqT K H b ys ∧ xs.length = ys.length ∧ xs.length < sizeLine ∧ ∀ (i : Nat) (x y : V), xs[i]? = some x → ys[i]? = some y → Eqv K H n x y)
theorem Eqv.same {K : PySem.W.Frag} {H H' : Hp} (s : Same H H') : ∀ {n : Nat} {v w : V}, Eqv K H n v w → Eqv K H' n v w
  | 0, _, _, h => h.elim
  | n + 1, _, _, .inl h => .inl h
  | n + 1, _, _, .inr (.inl ⟨a, b, xs, ys, e1, e2, h1, h2, h3, h4, h5⟩) => .inr (.inl ⟨a, b, xs, ys, e1, e2, s.seq h1, s.seq h2, h3, h4, fun i x y hx hy => Eqv.same s (h5 i x y hx hy)⟩)
  | n + 1, _, _, .inr (.inr ⟨a, b, xs, ys, e1, e2, h1, h2, h3, h4, h5⟩) => .inr (.inr ⟨a, b, xs, ys, e1, e2, Same.seqT s h1, Same.seqT s h2, h3, h4, fun i x y hx hy => Eqv.same s (h5 i x y hx hy)⟩)
/-- the law's own comparison, of same data -/
def spSame (K : PySem.W.Frag) (n : Nat) : Sp := fun vs H Q _ => ∃ (v w : V), vs = [v, w] ∧ Eqv K H n v w ∧ ∀ H', Same H H' → Q (.bl true) H'
end My
/-! part Kit4 -/
namespace My
open PySem PySem.Spec PyProof.Rows L2
/-! ### words of letters -/
abbrev az : Str := Str.ofString "abcdefghijklmnopqrstuvwxyz"
def kwL : List Str := [Str.ofString "let", Str.ofString "set", Str.ofString "out", Str.ofString "read", Str.ofString "do", Str.ofString "def", Str.ofString "if", Str.ofString "else", Str.ofString "repeat", Str.ofString "block"]
/-- the program's own test of a name -/
def nameB (z : Str) : Bool := if (z.length : Int) > 6 then false else Txt.isascii z && (Txt.isalpha z && (Txt.islower z && !kwL.contains z))
def toS (l : List Nat) : Str := ⟨l.toArray⟩
/-- the last t letters of the word with an index -/
def sfx : Nat → Nat → List Nat
  | 0, _ => []
  | t + 1, i => (97 + (i / 26 ^ t) % 26) :: sfx t i
theorem sfx_len : ∀ t i, (sfx t i).length = t
  | 0, _ => rfl
  | t + 1, i => by
    show (sfx t i).length + 1 = t + 1
    rw [sfx_len t i]
theorem toS_len (l : List Nat) : (toS l).length = l.length := by
  show l.toArray.size = l.length
  exact List.size_toArray ..
theorem toS_cons (c : Nat) (l : List Nat) : (⟨#[c]⟩ : Str) ++ toS l = toS (c :: l) := by
  show (⟨#[c] ++ l.toArray⟩ : Str) = ⟨(c :: l).toArray⟩
  rw [show #[c] ++ l.toArray = (c :: l).toArray by simp]
theorem az_at {k : Nat} (h : k < 26) : atI az.cps.toList (k : Int) = some (97 + k) := by
  have q : ∀ k : Fin 26, az.cps.toList[k.1]? = some (97 + k.1) := by decide +kernel
  exact atI_nat (q ⟨k, h⟩)
theorem az_len : az.length = 26 := by decide +kernel
theorem inV_strs (x : Str) : ∀ ys : List Str, inV (.str x) (ys.map V.str) = ys.contains x
  | [] => rfl
  | y :: ys => by
    have ih := inV_strs x ys
    unfold inV at ih ⊢
    rw [List.map_cons, List.any_cons, ih, List.contains_cons]
    rw [show eqV (.str y) (.str x) = (y == x) from rfl]
    rw [show (y == x) = (x == y) from Bool.eq_iff_iff.mpr ⟨fun h => beq_iff_eq.mpr (beq_iff_eq.mp h).symm, fun h => beq_iff_eq.mpr (beq_iff_eq.mp h).symm⟩]
theorem flat_strs (ys : List Str) : (ys.map V.str).all flatV = true := by
  rw [List.all_map]
  exact List.all_eq_true.mpr fun _ _ => rfl
end My
/-! part SetR -/
namespace My
open PySem PySem.Spec PyProof.Rows L2
section
variable {X : Cx}
theorem lawful_key : LawfulBEq Key where
  eq_of_beq {a b} h := by
    cases a <;> cases b
    · exact congrArg Sum.inl (eq_of_beq (α := Int) h)
    · cases h
    · cases h
    · exact congrArg Sum.inr (eq_of_beq (α := Str) h)
  rfl {a} := by
    cases a
    · exact beq_self_eq_true (α := Int) _
    · exact beq_self_eq_true (α := Str) _
theorem key_of_str {P : Program} {w : World} : ∀ {xs : List Str} {us : List Value}, Vals (xs.map V.str) us → ∀ (i : Nat) (v : Value), us.toArray[i]? = some v → ∃ k : Key, (xs.map Sum.inr)[i]? = some k ∧ (mixKind P w).is k v = true ∧ v.scannable = true
  | [], _, .nil, i, v, h => by simp at h
  | x :: xs, _, .cons r t, 0, v, h => by
    obtain ⟨t, rfl⟩ := r
    have e : Value.str x t = v := by simpa using h
    subst e
    exact ⟨.inr x, rfl, mixKind_str P w x t, rfl⟩
  | x :: xs, _,   .cons r t, i + 1, v, h => by
    obtain ⟨k, h1, h2⟩ := key_of_str (P := P) (w := w) t i v (by simpa using h)
    exact ⟨k, by simpa using h1, h2⟩
/-- set(x), x a list or tuple of texts: new, its members are those -/
def rSetS (K : PySem.W.Frag) (P : Program) (w : World) : List V → Hp → VK → Prop := fun vs H Q => ∃ (l : Addr) (xs : List Str), vs = [.ref l] ∧ (SqL K H l (xs.map V.str) ∨ SqT K H l (xs.map V.str)) ∧ xs.length ≤ 4000 ∧
  ∀ (a : Addr) (S : Key → Bool) (n : Nat), H a = none → (∀ x : Str, S (.inr x) = xs.contains x) → Q (.ref a) (upd H a (SetK P w a S n))
theorem cr_setS (hc : X.calm = true) : CallR X (.type "set") (rSetS X.K X.prog X.w) := by
  intro pins s σ H vs us Q I r h
  obtain ⟨l, xs, rfl, hs, hn, q⟩ := h
  rw [Vals.ref1 r]
  have go : ∀ its : List Value, Vals (xs.map V.str) its → (s.heap.IsList l its.toArray ∨ s.heap.IsTuple l its.toArray) → wpAny (model X.prog X.w) X.A (call (.type "set") [.ref l]) (EP X pins σ Q) X.xe s := fun its rv src => by
    haveI : LawfulBEq Key := lawful_key
    have e : its.length = xs.length := by rw [← rv.length, List.length_map]
    refine set_of (knd := mixKind X.prog X.w) l its.toArray (xs.map Sum.inr) (I.ok.hd hc) src (by rw [List.size_toArray, e]; unfold scanBound; omega) (key_of_str rv) fun h t m k => ?_
    obtain ⟨S, n, so, _, mem⟩ := m
    have hf : H s.heap.objs.size = none := I.hok.fresh (Nat.le_refl _)
    refine ⟨.ref s.heap.objs.size, _, I.laid (t' := t) (fun b o e => k b o (Heap.lt_size e) e) (Nat.le_refl _) (setK_new so), rfl, q _ S n hf fun x => ?_⟩
    rw [Bool.eq_iff_iff, mem, List.size_toArray, e, List.take_of_length_le (by rw [List.length_map]; exact Nat.le_refl _), List.contains_iff_mem, List.mem_map]
    exact ⟨fun ⟨y, hy, z⟩ => by cases z; exact hy, fun hy => ⟨x, hy, rfl⟩⟩
  rcases hs with hs | hs
  · obtain ⟨its, rv, p, _⟩ := I.list hs
    exact go its rv (.inl p.isList)
  · obtain ⟨its, rv, p, _⟩ := I.tuple hs
    exact go its rv (.inr p)
end
end My
/-! part Kit5 -/
namespace My
open PySem PySem.Spec PyProof.Rows L2
/-- the words of L letters, in order -/
def ws (L : Nat) : List Str := (List.range (26 ^ L)).map fun i => toS (sfx L i)
def okW (avoid : List Str) (z : Str) : Bool := nameB z && !avoid.contains z
/-- the words of fewer than L + 1 letters -/
def pre (L : Nat) : List Str := (List.range L).flatMap fun t => ws (t + 1)
/-- the first so many names that are not to be avoided -/
def fresh (many : Nat) (avoid : List Str) : List Str := ((pre 6).filter (okW avoid)).take many
theorem pre_succ (L : Nat) : pre (L + 1) = pre L ++ ws (L + 1) := by
  unfold pre
  rw [List.range_succ, List.flatMap_append, List.flatMap_singleton]
theorem pre_le {L : Nat} (h : L ≤ 6) : ∃ r, pre 6 = pre L ++ r := by
  have go : ∀ d : Nat, ∃ r, pre (L + d) = pre L ++ r := fun d => by
    induction d with
    | zero => exact ⟨[], by simp⟩
    | succ d ih =>
      obtain ⟨r, e⟩ := ih
      exact ⟨r ++ ws (L + d + 1), by rw [← Nat.add_assoc, pre_succ, e, List.append_assoc]⟩
  obtain ⟨r, e⟩ := go (6 - L)
  rw [show L + (6 - L) = 6 by omega] at e
  exact ⟨r, e⟩
theorem ws_get {L i : Nat} (h : i < 26 ^ L) : (ws L)[i]? = some (toS (sfx L i)) := by
  unfold ws
  rw [List.getElem?_map, List.getElem?_range h] <;> rfl
theorem ws_len (L : Nat) : (ws L).length = 26 ^ L := by
  unfold ws
  rw [List.length_map, List.length_range]
theorem take_front {many : Nat} {f : Str → Bool} (u v : List Str) (h : (u.filter f).length = many) : u.filter f = ((u ++ v).filter f).take many := by
  rw [List.filter_append, List.take_append_of_le_length (by rw [h]; exact Nat.le_refl _), List.take_of_length_le (by rw [h]; exact Nat.le_refl _)]
/-- a first part of what is gone through that has enough -/
theorem fresh_enough {many L j : Nat} {avoid : List Str} (hL : L < 6) (hj : ((pre L ++ (ws (L + 1)).take j).filter (okW avoid)).length = many) :
    (pre L ++ (ws (L + 1)).take j).filter (okW avoid) = fresh many avoid := by
  obtain ⟨r, e⟩ := pre_le (show L + 1 ≤ 6 by omega)
  have c : pre 6 = (pre L ++ (ws (L + 1)).take j) ++ ((ws (L + 1)).drop j ++ r) := by
    rw [e, pre_succ, List.append_assoc, List.append_assoc, ← List.append_assoc ((ws (L + 1)).take j), List.take_append_drop]
  unfold fresh
  rw [c]
  exact take_front _ _ hj
theorem fresh_end {many : Nat} {avoid : List Str} (h : ((pre 6).filter (okW avoid)).length ≤ many) : (pre 6).filter (okW avoid) = fresh many avoid := by
  unfold fresh
  rw [List.take_of_length_le h]
theorem fresh_len (many : Nat) (avoid : List Str) : (fresh many avoid).length ≤ many := by
  unfold fresh
  rw [List.length_take]
  omega
theorem sfx_mem : ∀ (t i c : Nat), c ∈ sfx t i → 97 ≤ c ∧ c < 123
  | 0, _, c, h => by cases h
  | t + 1, i, c, h => by
    rcases List.mem_cons.mp h with e | e
    · have q : i / 26 ^ t % 26 < 26 := Nat.mod_lt _ (by decide)
      rw [e]
      omega
    · exact sfx_mem t i c e
def spFresh (K : PySem.W.Frag) : Sp := fun vs H Q _ => ∃ (many : Nat) (l : Addr) (xs : List Str), vs = [.int many, .ref l] ∧ (SqL K H l (xs.map V.str) ∨ SqT K H l (xs.map V.str)) ∧ xs.length ≤ 4000 ∧ many ≤ 1000000 ∧
  ∀ (H' : Hp) (p : Addr), Same H H' → H p = none → H' p = some (.lst ((fresh many xs).map V.str)) → Q (.ref p) H'
end My
/-! part Kit6 -/
namespace My
open PySem PySem.Spec PyProof.Rows L2
theorem cut_to (xs : List V) (n : Nat) : cutV xs none (some (n : Int)) = xs.take n := by
  unfold cutV
  rw [HT.sIx_none, show HT.sIx xs.length xs.length (some (n : Int)) = min n xs.length from HT.sIx_nat xs.length xs.length n, List.drop_zero, Nat.sub_zero]
  rw [List.take_eq_take_iff]
  omega
theorem cut_mid (xs : List V) (m n : Nat) (h1 : m ≤ n) (h2 : n ≤ xs.length) : cutV xs (some (m : Int)) (some (n : Int)) = (xs.drop m).take (n - m) := by
  unfold cutV
  rw [show HT.sIx xs.length 0 (some (m : Int)) = min m xs.length from HT.sIx_nat xs.length 0 m, show HT.sIx xs.length xs.length (some (n : Int)) = min n xs.length from HT.sIx_nat xs.length xs.length n, Nat.min_eq_left (Nat.le_trans h1 h2), Nat.min_eq_left h2]
/-! ### the law's own words -/
def c26 : List Nat := (List.range 26).map (97 + ·)
def lw1 : List (List Nat) := c26.map fun x => [x]
def lw2 : List (List Nat) := c26.flatMap fun x => c26.map fun y => [x, y]
def lw3 : List (List Nat) := [97, 98].flatMap fun x => c26.flatMap fun y => c26.map fun z => [x, y, z]
def lawW : List Str := ((lw1 ++ lw2 ++ lw3).map toS).filter fun z => !kwL.contains z
theorem az_cps : az.cps.toList = c26 := by decide +kernel
def spWords : Sp := fun vs H Q _ => ∃ many : Nat, vs = [.int many] ∧ ∀ (H' : Hp) (p : Addr), Same H H' → H p = none → H' p = some (.lst ((lawW.take many).map V.str)) → Q (.ref p) H'
def spKw : Sp := fun vs H Q _ => vs = [] ∧ ∀ (H' : Hp) (p : Addr), Same H H' → H p = none → H' p = some (.lst (kwL.map V.str)) → Q (.ref p) H'
def spAz : Sp := fun vs H Q _ => vs = [] ∧ Q (.str az) H
end My
/-! part Kit7 -/
namespace My
open PySem PySem.Spec PyProof.Rows L2
section
variable {J : It} {n : Nat} {G : Hp → Prop} {Y : Nat → Hp → V → Hp → Prop} {g : TG} {tt : TT} {te : TE} {vs : List Nat} {σ : L2.St} {H1 : Hp} {D : Addr} {Qd : Hp → Prop}
/-- a comprehension whose i-th item gives `out i`, nothing for none: the new list of what was given -/
theorem lc_gen (w : Walk J n G Y) (out : Nat → Option V) (small : n < sizeLine) (nD : H1 D = none) (hG : ∀ H', Same H1 H' → G H')
    (hs : ∀ (i : Nat) (x : V) (H H' : Hp) (R : V → Hp → Prop) (Rn : Hp → Prop), i < n → Same H1 H → Y i H x H' → (∀ y, out i = some y → ∀ H4, Same H H4 → R y H4) → (out i = none → ∀ H4, Same H H4 → Rn H4) →
      g x (wipe σ vs) H' fun σ2 H2 => wipe σ2 vs = wipe σ vs ∧ tt σ2 H2 fun b H3 => if b = true then te σ2 H3 R else Rn H3)
    (hd : ∀ H', Same H1 H' → H' D = some (.lst ((List.range n).filterMap out)) → Qd H') :
    ∃ W : Nat → Nat → Hp → Prop, (∃ m, W 0 m (upd H1 D (.lst []))) ∧ ∀ i m H, W i m H →
      (J.stop i H ∧ Qd H) ∨ (J.go i H ∧ ∃ Nx : Hp → Prop, (∀ H', Nx H' → ∃ m', m' < m ∧ W (i + 1) m' H') ∧ ∀ x H', J.yld i H x H' → g x (wipe σ vs) H' fun σ2 H2 => wipe σ2 vs = wipe σ vs ∧ tt σ2 H2 fun b H3 =>
        if b = true then te σ2 H3 fun y H4 => ∃ acc, H4 D = some (.lst acc) ∧ acc.length < sizeLine ∧ Nx (upd H4 D (.lst (acc ++ [y]))) else Nx H3) := by
  have bound : ∀ i, ((List.range i).filterMap out).length ≤ i := fun i => Nat.le_trans (List.length_filterMap_le ..) (by rw [List.length_range]; exact Nat.le_refl _)
  have step : ∀ i, (List.range (i + 1)).filterMap out = (List.range i).filterMap out ++ (match out i with | some y => [y] | none => []) := fun i => by
    rw [List.range_succ, List.filterMap_append]
    cases h : out i with
    | none => rw [List.filterMap_cons_none h, List.filterMap_nil]
    | some y => rw [List.filterMap_cons_some h, List.filterMap_nil]
  refine lc_it w (fun i H => Same H1 H ∧ H D = some (.lst ((List.range i).filterMap out))) ⟨same_new nD _, upd_same⟩ (fun i H _ p => hG H p.1) (fun i x H H' hi p y => ?_) (fun H p => hd H p.1 p.2)
  refine hs i x H H' _ _ hi p.1 y (fun z e H4 s => ?_) (fun e H4 s => ?_)
  · refine ⟨_, s _ _ p.2, Nat.lt_of_le_of_lt (bound i) (Nat.lt_trans hi small), fun b o q => ?_, ?_⟩
    · rw [upd_ne (ne_of_none q nD)]
      exact s _ _ (p.1 _ _ q)
    · rw [upd_same, step, e]
  · refine ⟨p.1.trans s, ?_⟩
    rw [step, e, List.append_nil]
    exact s _ _ p.2
/-- a comprehension whose items are only known to be Ok -/
theorem lc_rel (w : Walk J n G Y) (Ok : Nat → V → Hp → Prop) (small : n < sizeLine) (nD : H1 D = none) (hG : ∀ H', Same H1 H' → G H') (mono : ∀ i y H H', (∀ b o, b ≠ D → H b = some o → H' b = some o) → Ok i y H → Ok i y H')
    (hs : ∀ (i : Nat) (x : V) (H H' : Hp) (R : V → Hp → Prop) (Rn : Hp → Prop), i < n → Same H1 H → H D ≠ none → Y i H x H' → (∀ y H4, Same H H4 → Ok i y H4 → R y H4) →
      g x (wipe σ vs) H' fun σ2 H2 => wipe σ2 vs = wipe σ vs ∧ tt σ2 H2 fun b H3 => if b = true then te σ2 H3 R else Rn H3)
    (hd : ∀ H' ys, Same H1 H' → ys.length = n → (∀ i y, ys[i]? = some y → Ok i y H') → H' D = some (.lst ys) → Qd H') :
    ∃ W : Nat → Nat → Hp → Prop, (∃ m, W 0 m (upd H1 D (.lst []))) ∧ ∀ i m H, W i m H →
      (J.stop i H ∧ Qd H) ∨ (J.go i H ∧ ∃ Nx : Hp → Prop, (∀ H', Nx H' → ∃ m', m' < m ∧ W (i + 1) m' H') ∧ ∀ x H', J.yld i H x H' → g x (wipe σ vs) H' fun σ2 H2 => wipe σ2 vs = wipe σ vs ∧ tt σ2 H2 fun b H3 =>
        if b = true then te σ2 H3 fun y H4 => ∃ acc, H4 D = some (.lst acc) ∧ acc.length < sizeLine ∧ Nx (upd H4 D (.lst (acc ++ [y]))) else Nx H3) := by
  refine lc_it w (fun i H => Same H1 H ∧ ∃ ys : List V, ys.length = i ∧ (∀ k y, ys[k]? = some y → Ok k y H) ∧ H D = some (.lst ys)) ?_ (fun i H _ p => hG H p.1) (fun i x H H' hi p y => ?_) (fun H p => ?_)
  · exact ⟨same_new nD _, [], rfl, fun k y h => by simp at h, upd_same⟩
  · obtain ⟨s1, ys, rfl, ok, e⟩ := p
    refine hs ys.length x H H' _ _ hi s1 (by rw [e]; exact fun z => nomatch z) y fun z H4 s o4 => ?_
    refine ⟨_, s _ _ e, Nat.lt_trans hi small, fun b o q => ?_, ys ++ [z], by rw [List.length_append, List.length_singleton], fun k u hu => ?_, upd_same⟩
    · rw [upd_ne (ne_of_none q nD)]
      exact s _ _ (s1 _ _ q)
    · have back : ∀ b o, b ≠ D → H4 b = some o → upd H4 D (.lst (ys ++ [z])) b = some o := fun b o hb q => by rw [upd_ne hb]; exact q
      by_cases hk : k < ys.length
      · rw [List.getElem?_append_left hk] at hu
        exact mono k u _ _ back (mono k u _ _ (fun b o _ q => s b o q) (ok k u hu))
      · rw [List.getElem?_append_right (by omega)] at hu
        have k0 : k = ys.length := by
          have := (List.getElem?_eq_some_iff.mp hu).1
          rw [List.length_singleton] at this
          omega
        subst k0
        rw [Nat.sub_self] at hu
        obtain rfl : z = u := Option.some.inj hu
        exact mono _ _ _ _ back o4
  · obtain ⟨s1, ys, h2, ok, e⟩ := p
    exact hd H ys s1 h2 ok e
end
end My
/-! part Kit8 -/
namespace My
open PySem PySem.Spec PyProof.Rows L2
theorem range_items {α β : Type} (l : List α) (f : α → Option β) (k : Nat) : (List.range k).filterMap (fun i => (l[i]?).bind f) = (l.take k).filterMap f := by
  induction k with
  | zero => rfl
  | succ k ih =>
    rw [List.range_succ, List.filterMap_append, ih, List.take_add_one, List.filterMap_append]
    congr 1
    cases h : l[k]? with
    | none =>
      rw [List.filterMap_cons_none (by show (l[k]?).bind f = none; rw [h] <;> rfl)]
      rfl
    | some x =>
      show [k].filterMap (fun i => (l[i]?).bind f) = [x].filterMap f
      cases h2 : f x with
      | none => rw [List.filterMap_cons_none (by show (l[k]?).bind f = none; rw [h]; exact h2), List.filterMap_cons_none h2]; rfl
      | some y => rw [List.filterMap_cons_some (b := y) (by show (l[k]?).bind f = some y; rw [h]; exact h2), List.filterMap_cons_some h2]; rfl
theorem range_all {α β : Type} (l : List α) (f : α → Option β) : (List.range l.length).filterMap (fun i => (l[i]?).bind f) = l.filterMap f := by
  rw [range_items, List.take_of_length_le (Nat.le_refl _)]
theorem filterMap_some {α β : Type} (f : α → β) : ∀ l : List α, l.filterMap (fun x => some (f x)) = l.map f
  | [] => rfl
  | x :: l => by
    rw [List.filterMap_cons_some (f := fun x => some (f x)) (b := f x) rfl, filterMap_some f l]
    rfl
theorem toS_app (a b : List Nat) : toS a ++ toS b = toS (a ++ b) := by
  show (⟨a.toArray ++ b.toArray⟩ : Str) = ⟨(a ++ b).toArray⟩
  rw [List.append_toArray]
def vS (l : List (List Nat)) : List V := l.map fun x => V.str (toS x)
theorem vS_len (l : List (List Nat)) : (vS l).length = l.length := List.length_map _
theorem vS_app (a b : List (List Nat)) : vS a ++ vS b = vS (a ++ b) := by
  unfold vS
  rw [List.map_append]
theorem vS_get {l : List (List Nat)} {i : Nat} {x : List Nat} (h : l[i]? = some x) : (vS l)[i]? = some (.str (toS x)) := by
  unfold vS
  rw [List.getElem?_map, h]
  rfl
theorem c26_len : c26.length = 26 := by decide
theorem az_size : az.cps.size = 26 := by decide +kernel
theorem az_getA (i : Nat) : az.cps[i]? = c26[i]? := by
  rw [← az_cps, Array.getElem?_toList]
end My
/-! part Kit9 -/
namespace My
open PySem PySem.Spec PyProof.Rows L2
/-- each word with each letter behind -/
def ext1 (l : List (List Nat)) : List (List Nat) := l.flatMap fun a => c26.map fun b => a ++ [b]
theorem ext1_len : ∀ l : List (List Nat), (ext1 l).length = 26 * l.length
  | [] => rfl
  | a :: l => by
    show (c26.map (fun b => a ++ [b]) ++ ext1 l).length = 26 * (l.length + 1)
    rw [List.length_append, List.length_map, ext1_len l, c26_len]
    omega
theorem ext1_app (l m : List (List Nat)) : ext1 (l ++ m) = ext1 l ++ ext1 m := by
  unfold ext1
  rw [List.flatMap_append]
theorem ext1_one (a : List Nat) : ext1 [a] = c26.map fun b => a ++ [b] := by
  unfold ext1
  rw [List.flatMap_singleton]
theorem ext1_nil : ext1 [[]] = lw1 := by decide +kernel
theorem ext1_lw1 : ext1 lw1 = lw2 := by decide +kernel
theorem ext1_ab : ext1 (ext1 [[97], [98]]) = lw3 := by decide +kernel
theorem lw1_len : lw1.length = 26 := by decide
theorem lw2_len : lw2.length = 676 := by decide +kernel
theorem vS_c26 (a : List Nat) : c26.map (fun c => V.str (toS (a ++ [c]))) = vS (ext1 [a]) := by
  rw [ext1_one]
  unfold vS
  rw [List.map_map]
  rfl
theorem take_snoc {α : Type} {l : List α} {i : Nat} {x : α} (h : l[i]? = some x) : l.take (i + 1) = l.take i ++ [x] := by
  rw [List.take_add_one, h]
  rfl
theorem ab_cps : (Str.ofString "ab").cps.toList = [97, 98] := by decide +kernel
end My
namespace My
open PySem PySem.Spec PyProof.Rows L2
theorem ab_size : (Str.ofString "ab").cps.size = 2 := by decide +kernel
theorem kw_filter : ∀ l : List (List Nat), l.filterMap (fun x => if kwL.contains (toS x) = true then none else some (V.str (toS x))) = ((l.map toS).filter fun z => !kwL.contains z).map V.str
  | [] => rfl
  | x :: l => by
    have ih := kw_filter l
    cases h : kwL.contains (toS x) with
    | true =>
      rw [List.filterMap_cons_none (by rw [h] <;> rfl), List.map_cons, List.filter_cons_of_neg (by rw [h]; exact Bool.false_ne_true), ih]
    | false =>
      rw [List.filterMap_cons_some (b := .str (toS x)) (by rw [h] <;> rfl), List.map_cons, List.filter_cons_of_pos (by rw [h] <;> rfl), ih, List.map_cons]
end My
/-! part KitA -/
namespace My
open PySem PySem.Spec PyProof.Rows L2
theorem letter_ok {c : Nat} (h1 : 97 ≤ c) (h2 : c < 123) : Unicode.isAlpha c = true ∧ Unicode.isLower c = true ∧ Unicode.isUpper c = false ∧ Unicode.isTitle c = false ∧ c < 128 := by
  have q : ∀ k : Fin 26, Unicode.isAlpha (97 + k.1) = true ∧ Unicode.isLower (97 + k.1) = true ∧ Unicode.isUpper (97 + k.1) = false ∧ Unicode.isTitle (97 + k.1) = false ∧ 97 + k.1 < 128 := by decide +kernel
  have e : c = 97 + (c - 97) := by omega
  rw [e]
  exact q ⟨c - 97, by omega⟩
/-- a word of letters is a name unless it is a keyword -/
theorem nameB_word {l : List Nat} (h0 : 0 < l.length) (h6 : l.length ≤ 6) (h : ∀ c ∈ l, 97 ≤ c ∧ c < 123) : nameB (toS l) = !kwL.contains (toS l) := by
  have a1 : Txt.isascii (toS l) = true := by
    show l.toArray.all (fun c => decide (c < 128)) = true
    rw [List.all_toArray]
    exact List.all_eq_true.mpr fun c hc => decide_eq_true (letter_ok (h c hc).1 (h c hc).2).2.2.2.2
  have a2 : Txt.isalpha (toS l) = true := by
    show (decide ((toS l).length > 0) && l.toArray.all Unicode.isAlpha) = true
    rw [List.all_toArray, toS_len, decide_eq_true h0]
    exact List.all_eq_true.mpr fun c hc => (letter_ok (h c hc).1 (h c hc).2).1
  have a3 : Txt.islower (toS l) = true := by
    show (l.toArray.any Unicode.isLower && !l.toArray.any fun c => Unicode.isUpper c || Unicode.isTitle c) = true
    rw [List.any_toArray, List.any_toArray]
    have b1 : l.any Unicode.isLower = true := by
      cases l with
      | nil => exact absurd h0 (by decide)
      | cons c r => exact List.any_eq_true.mpr ⟨c, List.mem_cons_self, (letter_ok (h c List.mem_cons_self).1 (h c List.mem_cons_self).2).2.1⟩
    have b2 : (l.any fun c => Unicode.isUpper c || Unicode.isTitle c) = false := List.any_eq_false.mpr fun c hc => by
      have q := letter_ok (h c hc).1 (h c hc).2
      rw [q.2.2.1, q.2.2.2.1]
      exact Bool.false_ne_true
    rw [b1, b2]
    rfl
  unfold nameB
  rw [if_neg (by rw [toS_len]; omega), a1, a2, a3]
  rfl
def lwAll : List (List Nat) := lw1 ++ lw2 ++ lw3
theorem lw_ok : lwAll.all (fun l => decide (0 < l.length) && decide (l.length ≤ 6) && l.all fun c => decide (97 ≤ c) && decide (c < 123)) = true := by decide +kernel
theorem lw_word {l : List Nat} (h : l ∈ lwAll) : nameB (toS l) = !kwL.contains (toS l) := by
  have q := List.all_eq_true.mp lw_ok l h
  simp only [Bool.and_eq_true, decide_eq_true_eq, List.all_eq_true] at q
  exact nameB_word q.1.1 q.1.2 fun c hc => q.2 c hc
theorem ws_eq {L : Nat} {l : List (List Nat)} {n : Nat} (h : (List.range n).map (sfx L) = l) (hn : n ≤ 26 ^ L) : (ws L).take n = l.map toS := by
  unfold ws
  rw [← List.map_take, List.take_range, Nat.min_eq_left hn, ← h, List.map_map]
  rfl
theorem pre_front : ∃ r, pre 6 = lwAll.map toS ++ r := by
  obtain ⟨r, e⟩ := pre_le (show 3 ≤ 6 by decide)
  have e1 : ws 1 = lw1.map toS := by
    rw [← ws_eq (L := 1) (n := 26) (l := lw1) (by decide +kernel) (by decide), List.take_of_length_le (by rw [ws_len]; decide)]
  have e2 : ws 2 = lw2.map toS := by
    rw [← ws_eq (L := 2) (n := 676) (l := lw2) (by decide +kernel) (by decide), List.take_of_length_le (by rw [ws_len]; decide)]
  have e3 : (ws 3).take 1352 = lw3.map toS := ws_eq (by decide +kernel) (by decide)
  refine ⟨(ws 3).drop 1352 ++ r, ?_⟩
  rw [e, show pre 3 = ws 1 ++ ws 2 ++ ws 3 by rw [pre_succ 2, pre_succ 1, pre_succ 0]; rfl]
  unfold lwAll
  rw [List.map_append, List.map_append, ← e1, ← e2, ← e3, ← List.append_assoc, List.append_assoc (ws 1 ++ ws 2) _ ((ws 3).drop 1352), List.take_append_drop]
theorem name_front : ∃ r, (pre 6).filter nameB = lawW ++ r := by
  obtain ⟨r, e⟩ := pre_front
  refine ⟨r.filter nameB, ?_⟩
  rw [e, List.filter_append]
  congr 1
  unfold lawW
  show _ = (lwAll.map toS).filter _
  refine List.filter_congr fun z hz => ?_
  obtain ⟨l, hl, rfl⟩ := List.mem_map.mp hz
  exact lw_word hl
/-! no word twice -/
def code (l : List Nat) : Nat := l.foldl (fun a c => a * 27 + (c - 96)) 0
def upB : List Nat → Bool
  | [] => true
  | [_] => true
  | a :: b :: r => decide (a < b) && upB (b :: r)
theorem up_pw : ∀ {l : List Nat}, upB l = true → l.Pairwise (· < ·)
  | [], _ => .nil
  | [a], _ => List.pairwise_singleton ..
  | a :: b :: r, h => by
    have h : (decide (a < b) && upB (b :: r)) = true := h
    rw [Bool.and_eq_true, decide_eq_true_eq] at h
    have ih := up_pw h.2
    refine List.pairwise_cons.mpr ⟨fun c hc => ?_, ih⟩
    rcases List.mem_cons.mp hc with e | e
    · rw [e]; exact h.1
    · exact Nat.lt_trans h.1 ((List.pairwise_cons.mp ih).1 c e)
theorem lw_chain : upB (lwAll.map code) = true := by decide +kernel
theorem toS_inj {a b : List Nat} (h : toS a = toS b) : a = b := by
  have q : a.toArray = b.toArray := congrArg Str.cps h
  simpa using q
theorem lw_nodup : (lwAll.map toS).Nodup := by
  have p : (lwAll.map code).Pairwise (· < ·) := up_pw lw_chain
  refine List.pairwise_map.mpr ((List.pairwise_map.mp p).imp fun {a b} h e => ?_)
  have q : a = b := toS_inj e
  rw [q] at h
  exact Nat.lt_irrefl _ h
theorem lawW_nodup : lawW.Nodup := List.Pairwise.filter _ lw_nodup
theorem lawW_len : lawW.length = 2052 := by decide +kernel
/-- of different words at most as many are avoided as there are to avoid -/
theorem left_over : ∀ (av : List Str) (l : List Str), l.Nodup → l.length ≤ (l.filter fun z => !av.contains z).length + av.length
  | [], l, _ => by
    have e : (l.filter fun z => !([] : List Str).contains z) = l := List.filter_eq_self.mpr fun _ _ => rfl
    rw [e]
    exact Nat.le_refl _
  | a :: av, l, h => by
    have e : (l.filter fun z => !(a :: av).contains z) = (l.filter fun z => z != a).filter fun z => !av.contains z := by
      rw [List.filter_filter]
      refine List.filter_congr fun z _ => ?_
      rw [List.contains_cons, Bool.not_or, Bool.and_comm]
      rfl
    have ih := left_over av (l.filter fun z => z != a) (List.Pairwise.filter _ h)
    have k : l.length ≤ (l.filter fun z => z != a).length + 1 := by
      rw [← List.Nodup.erase_eq_filter h, List.length_erase]
      split <;> omega
    rw [e, List.length_cons]
    omega
theorem fresh_law {many : Nat} {av : List Str} (h : many + av.length ≤ 1400) : fresh many av = ((lawW.take 1400).filter fun z => !av.contains z).take many := by
  obtain ⟨r, e⟩ := name_front
  have e2 : (pre 6).filter (okW av) = ((pre 6).filter nameB).filter fun z => !av.contains z := by
    rw [List.filter_filter]
    refine List.filter_congr fun z _ => ?_
    unfold okW
    rw [Bool.and_comm]
  unfold fresh
  rw [e2, e, show lawW ++ r = lawW.take 1400 ++ (lawW.drop 1400 ++ r) by rw [← List.append_assoc, List.take_append_drop], List.filter_append, List.take_append_of_le_length]
  have q := left_over av (lawW.take 1400) (lawW_nodup.sublist (List.take_sublist ..))
  rw [List.length_take, lawW_len] at q
  omega
end My
/-! part KitK -/
/-! calls by keywords alone -/
namespace My
open PySem PySem.Spec PyProof.Rows L2
/-- the items at these places -/
def pick {α : Type} (is : List Nat) (xs : List α) : List α := is.filterMap fun i => xs[i]?
theorem pick_rel : ∀ (is : List Nat) {zs : List V} {ws : List Value}, Vals zs ws → Vals (pick is zs) (pick is ws)
  | [], _, _, _ => .nil
  | i :: is, zs, ws, r => by
    have ih := pick_rel is r
    cases h : zs[i]? with
    | none =>
      have h2 := r.none_of h
      unfold pick
      rw [List.filterMap_cons_none h, List.filterMap_cons_none h2]
      exact ih
    | some v =>
      obtain ⟨u, h2, rv⟩ := r.get h
      unfold pick
      rw [List.filterMap_cons_some h, List.filterMap_cons_some h2]
      exact .cons rv ih
section
variable {K : PySem.W.Frag} {x qual : Str} {st : Stmt} {f : Addr} {fd : FuncData} {ps ks : List Str}
/-- how keywords bind: positional values first, then by the places `is` of the keywords -/
theorem kbn_of (F : L2.Fun K x qual st f fd) (n : Nat) (is : List Nat)
    (h : ∀ (kV doc pm : Value) (an : Option Addr) (cdv ct : Value) (us ws : List Value), us.length = n → ws.length = ks.length → bindArgs (PySem.W.fnOf x qual (defArgs st) (defBody st) (defScope st) .none kV doc pm an cdv ct) ⟨us, ks.zip ws⟩ = pure (ps.zip (us ++ pick is ws))) :
    KBn K fd ps n ks (fun us ws => us ++ pick is ws) (fun vs zs => vs ++ pick is zs) := by
  obtain ⟨oc, od, kV, doc, pm, an, cdv, ct, osl, rfl, lk, hcd⟩ := F.ex
  exact ⟨fun s us ws _ h1 h2 => .of_eq (h kV doc pm an cdv ct us ws h1 h2), fun r1 r2 => Vals.append r1 (pick_rel is r2)⟩
end
section
variable {X : Cx} {CX : CXT} {k n : Nat} {f : Addr} {fd : FuncData} {ps ks : List Str} {sp : Sp} {g : List Value → List Value → List Value} {gV : List V → List V → List V} {E : XK} {x : Str} {p pos : Pos} {kws : List Keyword} {tk : TA}
theorem pe_callK0 (F : FnOk X.prog X.w X.K X.mg X.base CX k f fd ps sp) (hr : Room k X.A) (hg : Gl X x) (hm : X.mg x = some (.ref f)) (hk : PySem.W.keepIn X.K (.ref f) = true) (hb : KBn X.K fd ps 0 ks g gV) (hx : Passes CX X E) (hkw : PK X kws tk)
    (hall : (backToKw pos (keywordEach kws X.env)).all (·.1.isSome) = true := by rfl) (hks : (backToKw pos (keywordEach kws X.env)).filterMap (·.1) = ks := by rfl) (hdb : (x == ("__debug__" : Str)) = false := by decide)
    (hpl : ((backTo pos (starEach [] X.env)).any (·.1) || (backToKw pos (keywordEach kws X.env)).any (·.1.isNone)) = false := by rfl) : PE X (.Call (.Name x p) [] kws pos) (tCallN 0 ks.length sp gV E tNil tk) := by
  refine ⟨fun pins s σ H Q I h => wpAny_Call_Name_kw (ld_glob I hg hm (PySem.W.callWith_KW0 (h₀ := X.base) I.ok.mod.kin hk hall ?_ hpl) hdb)⟩
  refine thn (hkw.run pos pins s σ H _ I h) fun ws s2 ⟨zs, H2, I2, rz, l1, l2, q2⟩ => ⟨I2.kIn, ?_⟩
  rw [hks]
  exact run_fnN F hr hb hx I2 .nil rz l1 l2 q2
end
end My
/-! part KitB -/
namespace My
open PySem PySem.Spec PyProof.Rows L2
def spLaw (K : PySem.W.Frag) : Sp := fun vs H Q _ => ∃ (a : Addr) (ns : List Int), vs = [.ref a] ∧ SqL K H a (ns.map V.int) ∧ ns.length ≤ 63 ∧ ∀ H', Q (.bl true) H'
/-- a list of texts -/
theorem strs_of {ys : List V} (h : ∀ (i : Nat) (y : V), ys[i]? = some y → ∃ s : Str, y = .str s) : ∃ ss : List Str, ys = ss.map V.str ∧ ss.length = ys.length := by
  induction ys with
  | nil => exact ⟨[], rfl, rfl⟩
  | cons y ys ih =>
    obtain ⟨s, rfl⟩ := h 0 y rfl
    obtain ⟨ss, e, l⟩ := ih fun i z hz => h (i + 1) z hz
    exact ⟨s :: ss, by rw [List.map_cons, ← e], by rw [List.length_cons, List.length_cons, l]⟩
/-- the same texts in two lists -/
theorem eqv_strs {K : PySem.W.Frag} {H : Hp} {a b : Addr} {ss : List Str} (h1 : SqL K H a (ss.map V.str)) (h2 : SqL K H b (ss.map V.str)) (hs : ss.length < sizeLine) (n : Nat) : Eqv K H (n + 2) (.ref a) (.ref b) := by
  refine .inr (.inl ⟨a, b, _, _, rfl, rfl, h1, h2, rfl, by rw [List.length_map]; exact hs, fun i x y hx hy => ?_⟩)
  rw [hx] at hy
  obtain rfl : x = y := Option.some.inj hy
  rw [List.getElem?_map] at hx
  obtain ⟨s, _, rfl⟩ := Option.map_eq_some_iff.mp hx
  exact .inl ⟨rfl, rfl⟩
theorem eqv_scal {K : PySem.W.Frag} {H : Hp} {n : Nat} {v : V} (h : scalV v = true) : Eqv K H (n + 1) v v := .inl ⟨rfl, h⟩
/-- a written list of things that are alike -/
theorem eqv_list {K : PySem.W.Frag} {H : Hp} {a b : Addr} {xs ys : List V} {n : Nat} (h1 : SqL K H a xs) (h2 : SqL K H b ys) (hs : xs.length < sizeLine) (h : Paired (Eqv K H n) xs ys) : Eqv K H (n + 1) (.ref a) (.ref b) := by
  refine .inr (.inl ⟨a, b, xs, ys, rfl, rfl, h1, h2, Paired.length h, hs, ?_⟩)
  clear h1 h2 hs
  induction h with
  | nil => intro i x y hx; simp at hx
  | cons r t ih =>
    intro i x y hx hy
    cases i with
    | zero =>
      obtain rfl := Option.some.inj hx
      obtain rfl := Option.some.inj hy
      exact r
    | succ i => exact ih i x y hx hy
theorem eqv_tup {K : PySem.W.Frag} {H : Hp} {a b : Addr} {xs ys : List V} {n : Nat} (h1 : SqT K H a xs) (h2 : SqT K H b ys) (hs : xs.length < sizeLine) (h : Paired (Eqv K H n) xs ys) : Eqv K H (n + 1) (.ref a) (.ref b) := by
  refine .inr (.inr ⟨a, b, xs, ys, rfl, rfl, h1, h2, Paired.length h, hs, ?_⟩)
  clear h1 h2 hs
  induction h with
  | nil => intro i x y hx; simp at hx
  | cons r t ih =>
    intro i x y hx hy
    cases i with
    | zero =>
      obtain rfl := Option.some.inj hx
      obtain rfl := Option.some.inj hy
      exact r
    | succ i => exact ih i x y hx hy
theorem str_filter (av : List Str) : ∀ l : List Str, l.filterMap (fun z => if av.contains z = true then none else some (V.str z)) = (l.filter fun z => !av.contains z).map V.str
  | [] => rfl
  | x :: l => by
    have ih := str_filter av l
    cases h : av.contains x with
    | true => rw [List.filterMap_cons_none (by rw [h] <;> rfl), List.filter_cons_of_neg (by rw [h]; exact Bool.false_ne_true), ih]
    | false => rw [List.filterMap_cons_some (b := .str x) (by rw [h] <;> rfl), List.filter_cons_of_pos (by rw [h] <;> rfl), ih, List.map_cons]
theorem same_none {K : PySem.W.Frag} {P : Program} {w : World} {mg : Str → Option Value} {base : Heap} {f : Addr} {fd : FuncData} {a b : Str} : FnOk P w K mg base CX0 0 f fd [a, b] (spSame K 0) :=
  ⟨fun vs H Q E h => (by obtain ⟨_, _, _, z, _⟩ := h; exact z.elim), fun A outer s H args us vs Q E _ _ _ _ h => (by obtain ⟨_, _, _, z, _⟩ := h; exact z.elim)⟩
end My
/-! part KitC -/
namespace My
open PySem PySem.Spec PyProof.Rows L2
theorem dp_strs {K : PySem.W.Frag} {H : Hp} : ∀ ss : List Str, DpAll K H (ss.map V.str) (ss.map PyData.str)
  | [] => .nil
  | s :: ss => .cons (.str s) (dp_strs ss)
theorem lay_strs : ∀ ss : List Str, (∀ s ∈ ss, PyData.strOk s = true) → PyData.canLayAll0 (ss.map PyData.str) = true
  | [], _ => rfl
  | s :: ss, h => by
    show (PyData.canLay0 (.str s) && PyData.canLayAll0 (ss.map PyData.str)) = true
    rw [lay_strs ss fun z hz => h z (List.mem_cons_of_mem _ hz), show PyData.canLay0 (.str s) = PyData.strOk s from rfl, h s List.mem_cons_self]
    rfl
theorem depth_strs : ∀ ss : List Str, PyData.depthAll (ss.map PyData.str) = 0
  | [] => by simp [PyData.depthAll]
  | s :: ss => by
    have ih := depth_strs ss
    simp [PyData.depthAll, PyData.depth, ih]
theorem shaped_strs {ss : List Str} (h : ∀ s ∈ ss, PyData.strOk s = true) : SeqAt.shaped (.list (ss.map PyData.str)) = true := by
  have d : PyData.depth (.list (ss.map PyData.str)) = 1 := by simp [PyData.depth, depth_strs]
  show (PyData.canLayAll0 (ss.map PyData.str) && decide (PyData.depth (.list (ss.map PyData.str)) ≤ 64)) = true
  rw [lay_strs ss h, d]
  rfl
theorem eqv_same {ss : List Str} (h : ∀ s ∈ ss, PyData.strOk s = true) : PyData.eqv (.list (ss.map PyData.str)) (.list (ss.map PyData.str)) = true := SeqAt.eqv_refl _ (lay_strs ss h)
theorem lawW_strOk : lawW.all (fun s => PyData.strOk s) = true := by decide +kernel
theorem strs_ok {ys : List V} (h : ∀ (i : Nat) (y : V), ys[i]? = some y → ∃ s : Str, y = .str s ∧ PyData.strOk s = true) : ∃ ss : List Str, ys = ss.map V.str ∧ ss.length = ys.length ∧ ∀ s ∈ ss, PyData.strOk s = true := by
  induction ys with
  | nil => exact ⟨[], rfl, rfl, fun s h => by cases h⟩
  | cons y ys ih =>
    obtain ⟨s, rfl, k⟩ := h 0 y rfl
    obtain ⟨ss, e, l, o⟩ := ih fun i z hz => h (i + 1) z hz
    refine ⟨s :: ss, by rw [List.map_cons, ← e], by rw [List.length_cons, List.length_cons, l], fun z hz => ?_⟩
    rcases List.mem_cons.mp hz with u | u
    · rw [u]; exact k
    · exact o z u
theorem new_at {H H' : Hp} {p : Addr} {o : HO} (hX : upd H p o = H') (np : H p = none) : Same H H' ∧ H' p = some o := by
  subst hX
  exact ⟨same_new np o, upd_same⟩
theorem same_over {H H' : Hp} {p : Addr} (s : Same H H') (n : H p = none) (o : HO) : Same H (upd H' p o) := fun b u e => by
  rw [upd_ne (ne_of_none e n)]
  exact s _ _ e
abbrev ww : List Str := lawW.take 1400
theorem ww_len : ww.length = 1400 := by
  show (lawW.take 1400).length = 1400
  rw [List.length_take, lawW_len]
  rfl
theorem late_all {m : Nat} (h : m ≤ 1400) : fresh m [] = ww.take m := by
  rw [fresh_law (by simpa using h)]
  have e : (ww.filter fun z => !([] : List Str).contains z) = ww := List.filter_eq_self.mpr fun _ _ => rfl
  rw [show (lawW.take 1400) = ww from rfl, e]
theorem late_mid {m : Nat} (h : 28 ≤ m) : ((ww.take m).drop 25).take 3 = [Str.ofString "z", Str.ofString "aa", Str.ofString "ab"] := by
  rw [List.drop_take, List.take_take, Nat.min_eq_left (by omega)]
  decide +kernel
theorem late_kw {m : Nat} {k : Str} (h : kwL.contains k = true) : (ww.take m).contains k = false := by
  cases q : (ww.take m).contains k
  · rfl
  · have mem : k ∈ lawW := List.mem_of_mem_take (List.mem_of_mem_take (List.contains_iff_mem.mp q))
    have z := (List.mem_filter.mp mem).2
    rw [h] at z
    cases z
abbrev held4 : List Str := [Str.ofString "a", Str.ofString "z", Str.ofString "zz", Str.ofString "dp"]
abbrev mid24 : List Str := (List.range 24).map fun i => toS [98 + i]
theorem late_held {m : Nat} (h1 : 26 ≤ m) (h2 : m ≤ 1000) : (fresh m held4).take 26 = mid24 ++ [Str.ofString "aa", Str.ofString "ab"] := by
  rw [fresh_law (by show m + 4 ≤ 1400; omega), List.take_take, Nat.min_eq_left h1]
  decide +kernel
end My
/-! part K03a -/
namespace Kx
open PySem PySem.Spec PyProof.Rows L2 My
def topS (i : Nat) : Stmt := PySem.Challenge.pw_piercednames_k03_positions_between.main.body.getD i (.Pass ⟨0, 0, 0, 0⟩)
abbrev s_lowest : Stmt := topS 2
abbrev N_lowest : List Str := ["over", "under", "common"]
theorem sc_lowest : FnScope N_lowest ["over", "under"] (defScope s_lowest) := ⟨rfl, rfl, rfl, by decide +kernel, rfl, by decide +kernel, by decide +kernel⟩
-- slots: 0 over, 1 under, 2 common
abbrev s_middle : Stmt := topS 3
abbrev N_middle : List Str := ["one", "other", "over", "under", "other_over", "other_under"]
theorem sc_middle : FnScope N_middle ["one", "other"] (defScope s_middle) := ⟨rfl, rfl, rfl, by decide +kernel, rfl, by decide +kernel, by decide +kernel⟩
-- slots: 0 one, 1 other, 2 over, 3 under, 4 other_over, 5 other_under
abbrev s_is_below : Stmt := topS 4
abbrev N_is_below : List Str := ["one", "other", "over", "under", "other_over", "other_under"]
theorem sc_is_below : FnScope N_is_below ["one", "other"] (defScope s_is_below) := ⟨rfl, rfl, rfl, by decide +kernel, rfl, by decide +kernel, by decide +kernel⟩
-- slots: 0 one, 1 other, 2 over, 3 under, 4 other_over, 5 other_under
abbrev s_position_behind : Stmt := topS 5
abbrev N_position_behind : List Str := ["one", "other", "over", "under"]
theorem sc_position_behind : FnScope N_position_behind ["one", "other"] (defScope s_position_behind) := ⟨rfl, rfl, rfl, by decide +kernel, rfl, by decide +kernel, by decide +kernel⟩
-- slots: 0 one, 1 other, 2 over, 3 under
abbrev s_ordered : Stmt := topS 6
abbrev N_ordered : List Str := ["pairs", "common", "_", "under", "scaled", "over", "thing"]
theorem sc_ordered : FnScope N_ordered ["pairs"] (defScope s_ordered) := ⟨rfl, rfl, rfl, by decide +kernel, rfl, by decide +kernel, by decide +kernel⟩
-- slots: 0 pairs, 1 common, 2 _, 3 under, 4 scaled, 5 over, 6 thing
abbrev s__law_bag : Stmt := topS 8
abbrev N__law_bag : List Str := ["_law_script", "_law_mixed_here", "_law_cell"]
theorem sc__law_bag : FnScope N__law_bag ["_law_script"] (defScope s__law_bag) := ⟨rfl, rfl, rfl, by decide +kernel, rfl, by decide +kernel, by decide +kernel⟩
-- slots: 0 _law_script, 1 _law_mixed_here, 2 _law_cell
abbrev s__law_draw : Stmt := topS 9
abbrev N__law_draw : List Str := ["_law_bag_here", "_law_many", "_law_cell", "_law_digit", "_law_seed"]
theorem sc__law_draw : FnScope N__law_draw ["_law_bag_here", "_law_many"] (defScope s__law_draw) := ⟨rfl, rfl, rfl, by decide +kernel, rfl, by decide +kernel, by decide +kernel⟩
-- slots: 0 _law_bag_here, 1 _law_many, 2 _law_cell, 3 _law_digit, 4 _law_seed
abbrev s__law_of : Stmt := topS 10
abbrev N__law_of : List Str := ["_law_bag_here", "_law_some"]
theorem sc__law_of : FnScope N__law_of ["_law_bag_here", "_law_some"] (defScope s__law_of) := ⟨rfl, rfl, rfl, by decide +kernel, rfl, by decide +kernel, by decide +kernel⟩
-- slots: 0 _law_bag_here, 1 _law_some
abbrev s__law_mixed : Stmt := topS 11
abbrev N__law_mixed : List Str := ["_law_bag_here", "_law_some", "_law_found", "_law_item"]
theorem sc__law_mixed : FnScope N__law_mixed ["_law_bag_here", "_law_some"] (defScope s__law_mixed) := ⟨rfl, rfl, rfl, by decide +kernel, rfl, by decide +kernel, by decide +kernel⟩
-- slots: 0 _law_bag_here, 1 _law_some, 2 _law_found, 3 _law_item
abbrev s__law_same : Stmt := topS 12
abbrev N__law_same : List Str := ["_law_found", "_law_due", "_law_key", "_law_one_z", "_law_two"]
theorem sc__law_same : FnScope N__law_same ["_law_found", "_law_due"] (defScope s__law_same) := ⟨rfl, rfl, rfl, by decide +kernel, rfl, by decide +kernel, by decide +kernel⟩
-- slots: 0 _law_found, 1 _law_due, 2 _law_key, 3 _law_one_z, 4 _law_two
abbrev s__law_divisor : Stmt := topS 13
abbrev N__law_divisor : List Str := ["_law_a", "_law_b"]
theorem sc__law_divisor : FnScope N__law_divisor ["_law_a", "_law_b"] (defScope s__law_divisor) := ⟨rfl, rfl, rfl, by decide +kernel, rfl, by decide +kernel, by decide +kernel⟩
-- slots: 0 _law_a, 1 _law_b
abbrev s__law_low : Stmt := topS 14
abbrev N__law_low : List Str := ["_law_over_z", "_law_under_z", "_law_by"]
theorem sc__law_low : FnScope N__law_low ["_law_over_z", "_law_under_z"] (defScope s__law_low) := ⟨rfl, rfl, rfl, by decide +kernel, rfl, by decide +kernel, by decide +kernel⟩
-- slots: 0 _law_over_z, 1 _law_under_z, 2 _law_by
abbrev s__law_position : Stmt := topS 15
abbrev N__law_position : List Str := ["_law_bag_here"]
theorem sc__law_position : FnScope N__law_position ["_law_bag_here"] (defScope s__law_position) := ⟨rfl, rfl, rfl, by decide +kernel, rfl, by decide +kernel, by decide +kernel⟩
-- slots: 0 _law_bag_here
abbrev s__law_less : Stmt := topS 16
abbrev N__law_less : List Str := ["_law_one_z", "_law_other_z"]
theorem sc__law_less : FnScope N__law_less ["_law_one_z", "_law_other_z"] (defScope s__law_less) := ⟨rfl, rfl, rfl, by decide +kernel, rfl, by decide +kernel, by decide +kernel⟩
-- slots: 0 _law_one_z, 1 _law_other_z
abbrev s_law : Stmt := topS 17
abbrev N_law : List Str := ["_law_script", "_law_bag_here", "_law_turn", "_law_one_z", "_law_other_z", "_law_over_z", "_law_under_z", "_law_half", "_law_told", "_law_due", "_law_low_here", "_law_high", "_law_pairs_z", "_law_k", "_law_held", "_law_rest", "_law_first", "_law_pair", "_law_here", "_law_spots"]
theorem sc_law : FnScope N_law ["_law_script"] (defScope s_law) := ⟨rfl, rfl, rfl, by decide +kernel, rfl, by decide +kernel, by decide +kernel⟩
-- slots: 0 _law_script, 1 _law_bag_here, 2 _law_turn, 3 _law_one_z, 4 _law_other_z, 5 _law_over_z, 6 _law_under_z, 7 _law_half, 8 _law_told, 9 _law_due, 10 _law_low_here, 11 _law_high, 12 _law_pairs_z, 13 _law_k, 14 _law_held, 15 _law_rest, 16 _law_first, 17 _law_pair, 18 _law_here, 19 _law_spots

structure Tx (K : PySem.W.Frag) (mg : Str → Option Value) where
  f_lowest : Addr
  d_lowest : FuncData
  F_lowest : Fun K "lowest" "lowest" s_lowest f_lowest d_lowest
  g_lowest : mg "lowest" = some (.ref f_lowest)
  b_lowest : Binds K d_lowest ["over", "under"] []
  f_middle : Addr
  d_middle : FuncData
  F_middle : Fun K "middle" "middle" s_middle f_middle d_middle
  g_middle : mg "middle" = some (.ref f_middle)
  b_middle : Binds K d_middle ["one", "other"] []
  f_is_below : Addr
  d_is_below : FuncData
  F_is_below : Fun K "is_below" "is_below" s_is_below f_is_below d_is_below
  g_is_below : mg "is_below" = some (.ref f_is_below)
  b_is_below : Binds K d_is_below ["one", "other"] []
  f_position_behind : Addr
  d_position_behind : FuncData
  F_position_behind : Fun K "position_behind" "position_behind" s_position_behind f_position_behind d_position_behind
  g_position_behind : mg "position_behind" = some (.ref f_position_behind)
  b_position_behind : Binds K d_position_behind ["one", "other"] []
  f_ordered : Addr
  d_ordered : FuncData
  F_ordered : Fun K "ordered" "ordered" s_ordered f_ordered d_ordered
  g_ordered : mg "ordered" = some (.ref f_ordered)
  b_ordered : Binds K d_ordered ["pairs"] []
  f__law_bag : Addr
  d__law_bag : FuncData
  F__law_bag : Fun K "_law_bag" "_law_bag" s__law_bag f__law_bag d__law_bag
  g__law_bag : mg "_law_bag" = some (.ref f__law_bag)
  b__law_bag : Binds K d__law_bag ["_law_script"] []
  f__law_draw : Addr
  d__law_draw : FuncData
  F__law_draw : Fun K "_law_draw" "_law_draw" s__law_draw f__law_draw d__law_draw
  g__law_draw : mg "_law_draw" = some (.ref f__law_draw)
  b__law_draw : Binds K d__law_draw ["_law_bag_here", "_law_many"] []
  f__law_of : Addr
  d__law_of : FuncData
  F__law_of : Fun K "_law_of" "_law_of" s__law_of f__law_of d__law_of
  g__law_of : mg "_law_of" = some (.ref f__law_of)
  b__law_of : Binds K d__law_of ["_law_bag_here", "_law_some"] []
  f__law_mixed : Addr
  d__law_mixed : FuncData
  F__law_mixed : Fun K "_law_mixed" "_law_mixed" s__law_mixed f__law_mixed d__law_mixed
  g__law_mixed : mg "_law_mixed" = some (.ref f__law_mixed)
  b__law_mixed : Binds K d__law_mixed ["_law_bag_here", "_law_some"] []
  f__law_same : Addr
  d__law_same : FuncData
  F__law_same : Fun K "_law_same" "_law_same" s__law_same f__law_same d__law_same
  g__law_same : mg "_law_same" = some (.ref f__law_same)
  b__law_same : Binds K d__law_same ["_law_found", "_law_due"] []
  f__law_divisor : Addr
  d__law_divisor : FuncData
  F__law_divisor : Fun K "_law_divisor" "_law_divisor" s__law_divisor f__law_divisor d__law_divisor
  g__law_divisor : mg "_law_divisor" = some (.ref f__law_divisor)
  b__law_divisor : Binds K d__law_divisor ["_law_a", "_law_b"] []
  f__law_low : Addr
  d__law_low : FuncData
  F__law_low : Fun K "_law_low" "_law_low" s__law_low f__law_low d__law_low
  g__law_low : mg "_law_low" = some (.ref f__law_low)
  b__law_low : Binds K d__law_low ["_law_over_z", "_law_under_z"] []
  f__law_position : Addr
  d__law_position : FuncData
  F__law_position : Fun K "_law_position" "_law_position" s__law_position f__law_position d__law_position
  g__law_position : mg "_law_position" = some (.ref f__law_position)
  b__law_position : Binds K d__law_position ["_law_bag_here"] []
  f__law_less : Addr
  d__law_less : FuncData
  F__law_less : Fun K "_law_less" "_law_less" s__law_less f__law_less d__law_less
  g__law_less : mg "_law_less" = some (.ref f__law_less)
  b__law_less : Binds K d__law_less ["_law_one_z", "_law_other_z"] []
  f_law : Addr
  d_law : FuncData
  F_law : Fun K "law" "law" s_law f_law d_law
  g_law : mg "law" = some (.ref f_law)
  z_all : mg "all" = none
  z_bool : mg "bool" = none
  z_dict : mg "dict" = none
  z_int : mg "int" = none
  z_isinstance : mg "isinstance" = none
  z_len : mg "len" = none
  z_list : mg "list" = none
  z_range : mg "range" = none
  z_sorted : mg "sorted" = none
  z_str : mg "str" = none
  z_tuple : mg "tuple" = none
  z_zip : mg "zip" = none
  g_gcd : mg "gcd" = some (.builtin "math.gcd")
  g_lcm : mg "lcm" = some (.builtin "math.lcm")

end Kx
/-! part K03b -/
namespace Kx
open PySem PySem.Spec PyProof.Rows L2 My
section
variable {P : Program} {w : World} {K : PySem.W.Frag} {mg : Str → Option Value} {base : Heap} (T : Tx K mg)
theorem ok_draw0 : FnOk P w K mg base CX0 1 T.f__law_draw T.d__law_draw ["_law_bag_here", "_law_many"] spDraw0 := by
  refine T.F__law_draw.ok sc__law_draw (fun vs H Q E h => ?_) (fun cdv A outer s H vs Q E hr h => ?_)
  · obtain ⟨a, l, ns, k, xs, rfl, _⟩ := h
    rfl
  obtain ⟨a, l, ns, k, xs, rfl, hl, ha, la, ⟨i, g, m, n, rfl, i0, i1, m0, m1⟩, k0, k1, q⟩ := h
  refine ⟨_, (pss_cons (ps_asg (pe_op op_add (pe_ix ix_list (pv 0) pe_int (fun _ _ => rfl)) pe_int) (pg_sub (pv 0) pe_int set_list))
  (C8.pss_cut (ps_if (PW.pt (pw_and (pt_cmpR op_eq (pe_ix ix_list (pv 0) pe_int (fun _ _ => rfl)) pe_int (nomark _)) (pw_and1 (pt_cmpR op_lt (pe_ix ix_list (pv 0) pe_int (fun _ _ => rfl)) (pe_callB call_len_seq (by rfl) T.z_len (by decide +kernel) (pa_cons (pe_ix ix_list (pv 0) pe_int (fun _ _ => rfl)) pa_nil)) (nomark _)))))
    (pss_cons (ps_set (i := 2) sc__law_draw.nd rfl (Or.inl rfl) (pe_ix ix_list (pe_ix ix_list (pv 0) pe_int (fun _ _ => rfl)) (pe_ix ix_list (pv 0) pe_int (fun _ _ => rfl)) (fun _ _ => rfl)))
    (pss_cons (ps_asg (pe_op op_add (pe_ix ix_list (pv 0) pe_int (fun _ _ => rfl)) pe_int) (pg_sub (pv 0) pe_int set_list))
    (C8.pss_cut (ps_if (pt_cmpR op_ge (pv 2) (pe_op op_pow pe_int pe_int) (nomark _))
      (pss_one (ps_asg (pv 2) (pg_sub (pv 0) pe_int set_list)))
      pss_nil)
    (pss_one (ps_asg (pe_op op_modN (pe_callTy call_int1 (by rfl) T.z_int (by decide +kernel) (pa_cons (pe_op op_add (pe_op op_add (pe_op op_mul (pe_ix ix_list (pv 0) pe_int (fun _ _ => rfl)) pe_int) (pe_op op_mul (pe_op op_modN (pe_callTy call_int1 (by rfl) T.z_int (by decide +kernel) (pa_cons (pv 2) pa_nil)) pe_int) pe_int)) pe_int) pa_nil)) pe_int) (pg_sub (pv 0) pe_int set_list))))))
    pss_nil)
  (pss_cons (ps_if (pt_cmpR op_gt (pe_ix ix_list (pv 0) pe_int (fun _ _ => rfl)) pe_int (nomark _))
    (pss_cons (ps_set (i := 3) sc__law_draw.nd rfl (Or.inl rfl) (pe_op op_modN (pe_callTy call_int1 (by rfl) T.z_int (by decide +kernel) (pa_cons (pe_ix ix_list (pv 0) pe_int (fun _ _ => rfl)) pa_nil)) (pv 1)))
    (pss_cons (ps_asg (pe_op op_fdivN (pe_callTy call_int1 (by rfl) T.z_int (by decide +kernel) (pa_cons (pe_ix ix_list (pv 0) pe_int (fun _ _ => rfl)) pa_nil)) (pv 1)) (pg_sub (pv 0) pe_int set_list))
    (pss_one (ps_ret (pv 3)))))
    pss_nil)
  (pss_cons (ps_set (i := 4) sc__law_draw.nd rfl (Or.inl rfl) (pe_ix ix_list (pv 0) pe_int (fun _ _ => rfl)))
  (pss_cons (ps_asg (pe_op op_modN (pe_callTy call_int1 (by rfl) T.z_int (by decide +kernel) (pa_cons (pe_op op_add (pe_op op_add (pe_op op_add (pe_op op_pow (pv 4) pe_int) (pe_op op_mul (pv 4) pe_int)) (pe_op op_mul (pe_ix ix_list (pv 0) pe_int (fun _ _ => rfl)) pe_int)) pe_int) pa_nil)) pe_int) (pg_sub (pv 0) pe_int set_list))
  (pss_one (ps_ret (pe_op op_modN (pe_callTy call_int1 (by rfl) T.z_int (by decide +kernel) (pa_cons (pe_op op_add (pe_op op_fdivN (pe_ix ix_list (pv 0) pe_int (fun _ _ => rfl)) pe_int) (pe_op op_mul (pe_op op_modN (pe_callTy call_int1 (by rfl) T.z_int (by decide +kernel) (pa_cons (pe_ix ix_list (pv 0) pe_int (fun _ _ => rfl)) pa_nil)) pe_int) pe_int)) pa_nil)) (pv 1))))))))), ?_⟩
  refine ⟨_, rfl, _, _, _, _, rfl, rfl, .inl (.inl ha), atI_nat (j := 4) rfl, _, _, rfl, rfl, _, rfl, _, _, _, _, rfl, rfl, ha, rfl, ?_⟩
  refine ⟨fun σ' H' => ∃ (x2 : Option V) (i g m n : Int), σ' = [some (.ref a), some (.int k), x2, none, none] ∧ 0 ≤ i ∧ i ≤ (ns.length : Int) ∧ 0 ≤ m ∧ m < 2147483629 ∧
    H' a = some (.lst [.ref l, .int i, .int g, .int m, .int n]) ∧ ∀ ys, upd H' a (.lst ys) = upd H a (.lst ys), ?_, fun σ' H' hm => ?_⟩
  · have hl1 : upd H a (.lst [.ref l, .int i, .int g, .int m, .int (n + 1)]) l = some (.lst (ns.map V.int)) := by rw [upd_ne la]; exact hl
    refine ⟨_, rfl, _, _, _, _, rfl, rfl, .inl (.inl upd_same), atI_nat (j := 2) rfl, rfl, _, rfl, ?_⟩
    refine ite2 (fun _ => ?_) (fun _ => iteF ⟨none, i, g, m, n + 1, rfl, i0, i1, m0, m1, upd_same, fun ys => upd_upd⟩)
    refine ⟨_, rfl, _, _, _, _, rfl, rfl, .inl (.inl upd_same), atI_nat (j := 1) rfl, _, rfl, _, _, _, _, rfl, rfl, .inl (.inl upd_same), atI_nat (j := 0) rfl, l, ns.map V.int, rfl, .inl (.inl (.inl hl1)), _, _, rfl, rfl, _, rfl, ?_⟩
    refine ite2 (fun c => ?_) (fun _ => ⟨none, i, g, m, n + 1, rfl, i0, i1, m0, m1, upd_same, fun ys => upd_upd⟩)
    have c1 : i < ((ns.map V.int).length : Int) := of_decide_eq_true c
    rw [List.length_map] at c1
    have hi : i.toNat < ns.length := by omega
    have ei : i = ((i.toNat : Nat) : Int) := by omega
    have at1 : atI (ns.map V.int) i = some (.int ns[i.toNat]) := by
      have z : atI (ns.map V.int) ((i.toNat : Nat) : Int) = some (.int ns[i.toNat]) := atI_nat (by rw [List.getElem?_map, List.getElem?_eq_getElem hi] <;> rfl)
      rw [← ei] at z
      exact z
    generalize ns[i.toNat] = cell at at1
    refine ⟨_, rfl, _, _, _, _, rfl, rfl, .inl (.inl upd_same), atI_nat (j := 0) rfl, _, rfl, _, _, _, _, rfl, rfl, .inl (.inl upd_same), atI_nat (j := 1) rfl, l, _, _, _, rfl, rfl, .inl (.inl hl1), at1, ?_⟩
    refine ⟨_, rfl, _, _, _, _, rfl, rfl, .inl (.inl upd_same), atI_nat (j := 1) rfl, _, _, rfl, rfl, _, rfl, _, _, _, _, rfl, rfl, upd_same, rfl, ?_⟩
    refine ⟨fun σ' H' => ∃ g : Int, σ' = [some (.ref a), some (.int k), some (.int cell), none, none] ∧ H' a = some (.lst [.ref l, .int (i + 1), .int g, .int m, .int (n + 1)]) ∧ ∀ ys, upd H' a (.lst ys) = upd H a (.lst ys), ?_, fun σ' H' hm => ?_⟩
    · refine ⟨_, rfl, _, _, rfl, rfl, ⟨by decide, by decide, by decide⟩, _, _, rfl, rfl, _, rfl, ?_⟩
      refine ite2 (fun _ => ?_) (fun _ => ⟨g, rfl, upd_same, fun ys => ?_⟩)
      · refine ⟨_, rfl, _, rfl, _, _, _, _, rfl, rfl, upd_same, rfl, cell, rfl, upd_same, fun ys => ?_⟩
        rw [upd_upd, upd_upd, upd_upd]
      · rw [upd_upd, upd_upd]
    · obtain ⟨g, rfl, hb, hz⟩ := hm
      refine ⟨_, rfl, _, _, _, _, rfl, rfl, .inl (.inl hb), atI_nat (j := 3) rfl, _, _, rfl, rfl, .inr ⟨by decide, by decide⟩, _, rfl, .inl ⟨_, rfl, _, _, rfl, rfl, (by show (2147483563 : Int) ≠ 0; decide), _, _, rfl, rfl, .inr ⟨by decide, by decide⟩, _, _, rfl, rfl, _, _, rfl, rfl, .inl ⟨_, rfl, _, _, rfl, rfl, (by show (2147483629 : Int) ≠ 0; decide), ?_⟩⟩⟩
      refine ⟨_, rfl, _, _, _, _, rfl, rfl, hb, rfl, some (.int cell), i + 1, g, _, n + 1, rfl, by omega, by omega, fmod_lo _ (by decide), fmod_hi _ (by decide), upd_same, fun ys => ?_⟩
      rw [upd_upd]
      exact hz ys
  · obtain ⟨x2, i, g, m, n, rfl, i0, i1, m0, m1, hb, hz⟩ := hm
    refine ⟨_, rfl, _, _, _, _, rfl, rfl, .inl (.inl hb), atI_nat (j := 2) rfl, _, _, rfl, rfl, _, rfl, ?_⟩
    refine ite2 (fun c => ?_) (fun _ => ?_)
    · -- the rest of a great one
      refine ⟨_, rfl, _, _, _, _, rfl, rfl, .inl (.inl hb), atI_nat (j := 2) rfl, .inl ⟨_, rfl, _, rfl, _, _, rfl, rfl, (by show k ≠ 0; omega), ?_⟩⟩
      refine ⟨_, rfl, _, _, _, _, rfl, rfl, .inl (.inl hb), atI_nat (j := 2) rfl, .inl ⟨_, rfl, _, rfl, _, _, rfl, rfl, ⟨by omega, by omega⟩, ?_⟩⟩
      refine ⟨_, rfl, _, _, _, _, rfl, rfl, hb, rfl, _, rfl, ?_⟩
      rw [hz]
      exact q _ _ (fmod_lo _ k0) (fmod_hi _ k0) ⟨i, _, m, n, rfl, i0, i1, m0, m1⟩
    · refine ⟨_, rfl, _, _, _, _, rfl, rfl, .inl (.inl hb), atI_nat (j := 3) rfl, ?_⟩
      refine ⟨_, rfl, _, _, rfl, rfl, ⟨by decide, by decide, by omega⟩, _, rfl, _, _, rfl, rfl, .inl ⟨by omega, by omega⟩, _, _, rfl, rfl, _, rfl, _, _, _, _, rfl, rfl, .inl (.inl hb), atI_nat (j := 4) rfl, _, _, rfl, rfl, .inr ⟨by decide, by decide⟩, _, _, rfl, rfl, _, _, rfl, rfl,
        .inl ⟨_, rfl, _, _, rfl, rfl, (by show (2147483629 : Int) ≠ 0; decide), ?_⟩⟩
      refine ⟨_, rfl, _, _, _, _, rfl, rfl, hb, rfl, ?_⟩
      refine ⟨_, rfl, _, _, _, _, rfl, rfl, .inl (.inl upd_same), atI_nat (j := 3) rfl, _, _, rfl, rfl, ⟨by decide, by decide⟩, _, rfl, _, _, _, _, rfl, rfl, .inl (.inl upd_same), atI_nat (j := 3) rfl, .inl ⟨_, rfl, _, _, rfl, rfl, (by show (7907 : Int) ≠ 0; decide), _, _, rfl, rfl, .inr ⟨by decide, by decide⟩, _, _, rfl, rfl, .inl ⟨_, rfl, _, rfl, _, _, rfl, rfl, (by show k ≠ 0; omega), ?_⟩⟩⟩
      rw [hz]
      exact q _ _ (fmod_lo _ k0) (fmod_hi _ k0) ⟨i, g, _, n, rfl, i0, i1, fmod_lo _ (by decide), fmod_hi _ (by decide)⟩
theorem ok_draw : FnOk P w K mg base CX0 1 T.f__law_draw T.d__law_draw ["_law_bag_here", "_law_many"] spDraw := draw_sealed (ok_draw0 T) rfl
theorem ok_of : FnOk P w K mg base CX0 2 T.f__law_of T.d__law_of ["_law_bag_here", "_law_some"] (spOf K) := by
  have G__law_draw := ok_draw (P := P) (w := w) (base := base) T
  refine T.F__law_of.ok sc__law_of (fun vs H Q E h => ?_) (fun cdv A outer s H vs Q E hr h => ?_)
  · obtain ⟨a, p, xs, rfl, _⟩ := h
    rfl
  obtain ⟨a, p, xs, rfl, hb, hp, h0, h1, q⟩ := h
  refine ⟨_, (pss_one (ps_ret (pe_ix ix_list (pv 1) (pe_call G__law_draw (hr.mono (by decide)) (by rfl) T.g__law_draw T.F__law_draw.kp T.b__law_draw .nil pass0 (pa_cons (pv 0) (pa_cons (pe_callB call_len_seq (by rfl) T.z_len (by decide +kernel) (pa_cons (pv 1) pa_nil)) pa_nil))) (fun _ _ => rfl)))), ?_⟩
  refine ⟨_, rfl, _, rfl, _, rfl, _, xs, rfl, .inl hp, a, _, rfl, hb, by omega, by omega, fun d d0 d1 => ?_⟩
  have hd : d.toNat < xs.length := by omega
  have ed : d = ((d.toNat : Nat) : Int) := by omega
  have z : atI xs ((d.toNat : Nat) : Int) = some xs[d.toNat] := atI_nat (List.getElem?_eq_getElem hd)
  rw [← ed] at z
  exact ⟨_, _, _, _, rfl, rfl, hp, z, q d.toNat _ (List.getElem?_eq_getElem hd)⟩
theorem ok_bag0 : FnOk P w K mg base CX0 1 T.f__law_bag T.d__law_bag ["_law_script"] (spBag0 K) := by
  refine T.F__law_bag.ok sc__law_bag (fun vs H Q E h => ?_) (fun cdv A outer s H vs Q E hr h => ?_)
  · obtain ⟨a, ns, rfl, _⟩ := h
    rfl
  obtain ⟨a, ns, rfl, hs, hn, q⟩ := h
  refine ⟨_, (pss_cons (ps_set (i := 1) sc__law_bag.nd rfl (Or.inl rfl) pe_int)
  (pss_cons (ps_for PassesOwn.never rfl (pi_list (pe_slice sl_list (pv 0) po_none (po_some pe_int))) (pg_name (i := 2) sc__law_bag.nd rfl (Or.inl rfl))
    (pss_one (ps_set (i := 1) sc__law_bag.nd rfl (Or.inl rfl) (pe_op op_modN (pe_callTy call_int1 (by rfl) T.z_int (by decide +kernel) (pa_cons (pe_op op_add (pe_op op_add (pe_op op_mul (pv 1) pe_int) (pe_op op_modN (pe_callTy call_int1 (by rfl) T.z_int (by decide +kernel) (pa_cons (pv 2) pa_nil)) pe_int)) pe_int) pa_nil)) pe_int))))
  (pss_one (ps_ret (pe_lst (pa_cons (pe_callTy call_list_of (by rfl) T.z_list (by decide +kernel) (pa_cons (pe_slice sl_list (pv 0) po_none (po_some pe_int)) pa_nil)) (pa_cons pe_int (pa_cons pe_int (pa_cons (pv 1) (pa_cons pe_int pa_nil)))))))))), ?_⟩
  obtain ⟨ms, em, hm⟩ := cut_map ns none (some 63)
  refine ⟨_, rfl, 63, rfl, a, _, rfl, hs, fun p np => ?_⟩
  rw [em]
  refine ⟨p, rfl, ⟨_, .inl (.inl upd_same)⟩, ?_⟩
  refine for_list (K := K) (a := p) (xs := ms.map V.int) (fun _ σ H' => ∃ (m : Int) (x : Option V), σ = [some (.ref a), some (.int m), x] ∧ 0 ≤ m ∧ m < 2147483629 ∧ H' = upd H p (.lst (ms.map V.int))) ⟨12028, none, rfl, by decide, by decide, rfl⟩ ?_ ?_ ?_
  · rintro i σ H' _ ⟨m, x, _, _, _, rfl⟩
    exact .inl (.inl upd_same)
  · rintro i v σ H' hv ⟨m, x, rfl, m0, m1, rfl⟩
    rw [List.getElem?_map] at hv
    obtain ⟨c, hc, rfl⟩ := Option.map_eq_some_iff.mp hv
    refine ⟨_, rfl, _, _, rfl, rfl, .inr ⟨by decide, by decide⟩, _, rfl, .inl ⟨_, rfl, _, _, rfl, rfl, (by show (2147483563 : Int) ≠ 0; decide), _, _, rfl, rfl, _, _, rfl, rfl, .inl ⟨_, rfl, _, _, rfl, rfl, (by show (2147483629 : Int) ≠ 0; decide), ?_⟩⟩⟩
    exact ⟨_, _, rfl, fmod_lo _ (by decide), fmod_hi _ (by decide), rfl⟩
  · rintro σ H' ⟨m, x, rfl, m0, m1, rfl⟩
    have s1 : Same H (upd H p (.lst (ms.map V.int))) := same_new np _
    refine ⟨_, rfl, 63, rfl, a, _, rfl, s1.seq hs, fun p2 np2 => ?_⟩
    rw [em]
    have s2 := same_new np2 (.lst (ms.map V.int))
    refine ⟨p2, _, rfl, .inl (.inl (.inl upd_same)), fun l nl => ?_⟩
    have s3 := same_new nl (.lst (ms.map V.int))
    refine ⟨_, rfl, (by show 5 ≤ sizeLine; decide), fun b nb => ?_⟩
    have s4 := same_new nb (.lst [.ref l, .int 0, .int 0, .int m, .int 0])
    have lb : l ≠ b := fun e => by
      rw [← e, upd_same] at nb
      cases nb
    refine q _ b l ms _ (s1.trans (s2.trans (s3.trans s4))) ((s1.trans (s2.trans s3)).free nb) ?_ (by omega) upd_same ⟨0, 0, m, 0, rfl, by omega, by omega, m0, m1⟩ lb
    exact s4 _ _ upd_same
theorem ok_bag : FnOk P w K mg base CX0 1 T.f__law_bag T.d__law_bag ["_law_script"] (spBag K) := bag_sealed (ok_bag0 T) rfl
end
end Kx
/-! part K03c -/
namespace Kx
open PySem PySem.Spec PyProof.Rows L2 My
section
variable {P : Program} {w : World} {K : PySem.W.Frag} {mg : Str → Option Value} {base : Heap} (T : Tx K mg)
theorem ok_same1 {n : Nat} (G__law_same : FnOk P w K mg base CX0 n T.f__law_same T.d__law_same ["_law_found", "_law_due"] (spSame K n)) : FnOk P w K mg base CX0 (n + 1) T.f__law_same T.d__law_same ["_law_found", "_law_due"] (spSame K (n + 1)) := by
  refine T.F__law_same.ok sc__law_same (fun vs H Q E h => ?_) (fun cdv A outer s H vs Q E hr h => ?_)
  · obtain ⟨v, w, rfl, _⟩ := h
    rfl
  obtain ⟨v, w, rfl, h, q⟩ := h
  refine ⟨_, (pss_cons (ps_if (pt_val (pe_callB call_isi (by rfl) T.z_isinstance (by decide +kernel) (pa_cons (pv 1) (pa_cons (pe_bltn (v := .ty "dict") (by rfl) T.z_dict (by decide +kernel) rfl) pa_nil))))
    (pss_cons (ps_if (PW.pt (pw_or (pt_not (pt_val (pe_callB call_isi (by rfl) T.z_isinstance (by decide +kernel) (pa_cons (pv 0) (pa_cons (pe_bltn (v := .ty "dict") (by rfl) T.z_dict (by decide +kernel) rfl) pa_nil))))) (pw_or (pt_cmpR op_ne (pe_callB call_len_seq (by rfl) T.z_len (by decide +kernel) (pa_cons (pv 0) pa_nil)) (pe_callB call_len_seq (by rfl) T.z_len (by decide +kernel) (pa_cons (pv 1) pa_nil)) (nomark _)) (pw_or1 (pt_not (pt_val (pe_callB (cr_all rfl) (by rfl) T.z_all (by decide +kernel) (pa_cons (pe_lc (own := [("_law_key", 2)]) (g := gName 2) (by rfl) sc__law_same.nd (pi_list (pe_callTy call_list_of (by rfl) T.z_list (by decide +kernel) (pa_cons (pv 1) pa_nil))) (blkOk_by (own := [("_law_key", 2)]) (N := N__law_same) (sc := defScope s__law_same) (by decide +kernel)) (fun _ _ _ _ _ => (pg_name (i := 2) sc__law_same.nd rfl (Or.inl rfl))) (fun _ _ _ _ _ => pts_nil) (fun _ _ _ _ _ => (pe_cmpR (k_op_in_seq K) (pv 2) (pv 0) (by rfl)))) pa_nil))))))))
      (pss_one (ps_ret pe_bl))
      pss_nil)
    (pss_one (ps_ret (pe_callB (cr_all rfl) (by rfl) T.z_all (by decide +kernel) (pa_cons (pe_lc (own := [("_law_key", 2)]) (g := gName 2) (by rfl) sc__law_same.nd (pi_list (pe_callTy call_list_of (by rfl) T.z_list (by decide +kernel) (pa_cons (pv 1) pa_nil))) (blkOk_by (own := [("_law_key", 2)]) (N := N__law_same) (sc := defScope s__law_same) (by decide +kernel)) (fun _ _ _ _ _ => (pg_name (i := 2) sc__law_same.nd rfl (Or.inl rfl))) (fun _ _ _ _ _ => pts_nil) (fun _ _ _ _ _ => (pe_call G__law_same hr (by rfl) T.g__law_same T.F__law_same.kp T.b__law_same .nil pass0 (pa_cons (pe_ix (k_ix_list K) (pv 0) (pv 2) (fun _ _ => rfl)) (pa_cons (pe_ix (k_ix_list K) (pv 1) (pv 2) (fun _ _ => rfl)) pa_nil))))) pa_nil)))))
    pss_nil)
  (pss_cons (ps_if (pt_val (pe_callB call_isiT (by rfl) T.z_isinstance (by decide +kernel) (pa_cons (pv 1) (pa_cons (pe_tup (pa_cons (pe_bltn (v := .ty "list") (by rfl) T.z_list (by decide +kernel) rfl) (pa_cons (pe_bltn (v := .ty "tuple") (by rfl) T.z_tuple (by decide +kernel) rfl) pa_nil))) pa_nil))))
    (pss_cons (ps_if (PW.pt (pw_or (pt_cmpR op_ne (pe_callB call_isi (by rfl) T.z_isinstance (by decide +kernel) (pa_cons (pv 0) (pa_cons (pe_bltn (v := .ty "list") (by rfl) T.z_list (by decide +kernel) rfl) pa_nil))) (pe_callB call_isi (by rfl) T.z_isinstance (by decide +kernel) (pa_cons (pv 1) (pa_cons (pe_bltn (v := .ty "list") (by rfl) T.z_list (by decide +kernel) rfl) pa_nil))) (nomark _)) (pw_or1 (pt_cmpR op_ne (pe_callB call_isi (by rfl) T.z_isinstance (by decide +kernel) (pa_cons (pv 0) (pa_cons (pe_bltn (v := .ty "tuple") (by rfl) T.z_tuple (by decide +kernel) rfl) pa_nil))) (pe_callB call_isi (by rfl) T.z_isinstance (by decide +kernel) (pa_cons (pv 1) (pa_cons (pe_bltn (v := .ty "tuple") (by rfl) T.z_tuple (by decide +kernel) rfl) pa_nil))) (nomark _)))))
      (pss_one (ps_ret pe_bl))
      pss_nil)
    (pss_one (ps_ret (pe_and (pe_cmpR op_eq (pe_callB call_len_seq (by rfl) T.z_len (by decide +kernel) (pa_cons (pv 0) pa_nil)) (pe_callB call_len_seq (by rfl) T.z_len (by decide +kernel) (pa_cons (pv 1) pa_nil)) (nomark _)) (pe_one (pe_callB (cr_all rfl) (by rfl) T.z_all (by decide +kernel) (pa_cons (pe_lc (own := [("_law_one_z", 3), ("_law_two", 4)]) (g := gTup K 2 (gCons (gName 3) (gCons (gName 4) gNil))) (by rfl) sc__law_same.nd (RZ.pi_zipA (by rfl) T.z_zip (pa_cons (pv 0) (pa_cons (pv 1) pa_nil))) (blkOk_by (own := [("_law_one_z", 3), ("_law_two", 4)]) (N := N__law_same) (sc := defScope s__law_same) (by decide +kernel)) (fun _ _ _ _ _ => (pg_tup (by rfl) (pgs_cons (pg_name (i := 3) sc__law_same.nd rfl (Or.inl rfl)) (pgs_cons (pg_name (i := 4) sc__law_same.nd rfl (Or.inl rfl)) pgs_nil)))) (fun _ _ _ _ _ => pts_nil) (fun _ _ _ _ _ => (pe_call G__law_same hr (by rfl) T.g__law_same T.F__law_same.kp T.b__law_same .nil pass0 (pa_cons (pv 3) (pa_cons (pv 4) pa_nil))))) pa_nil)))))))
    pss_nil)
  (pss_cons (ps_if (PW.pt (pw_or (pt_cmpR op_isN (pv 1) pe_non (nomark _)) (pw_or1 (pt_cmpR op_isN (pv 0) pe_non (nomark _)))))
    (pss_one (ps_ret (pe_and (pe_cmpR op_isN (pv 1) pe_non (nomark _)) (pe_one (pe_cmpR op_isN (pv 0) pe_non (nomark _))))))
    pss_nil)
  (pss_cons (ps_if (PW.pt (pw_or (pt_cmpR op_ne (pe_callB call_isi (by rfl) T.z_isinstance (by decide +kernel) (pa_cons (pv 0) (pa_cons (pe_bltn (v := .ty "bool") (by rfl) T.z_bool (by decide +kernel) rfl) pa_nil))) (pe_callB call_isi (by rfl) T.z_isinstance (by decide +kernel) (pa_cons (pv 1) (pa_cons (pe_bltn (v := .ty "bool") (by rfl) T.z_bool (by decide +kernel) rfl) pa_nil))) (nomark _)) (pw_or1 (pt_cmpR op_ne (pe_callB call_isi (by rfl) T.z_isinstance (by decide +kernel) (pa_cons (pv 0) (pa_cons (pe_bltn (v := .ty "int") (by rfl) T.z_int (by decide +kernel) rfl) pa_nil))) (pe_callB call_isi (by rfl) T.z_isinstance (by decide +kernel) (pa_cons (pv 1) (pa_cons (pe_bltn (v := .ty "int") (by rfl) T.z_int (by decide +kernel) rfl) pa_nil))) (nomark _)))))
    (pss_one (ps_ret pe_bl))
    pss_nil)
  (pss_one (ps_ret (pe_and (pe_cmpR op_eq (pe_callB call_isi (by rfl) T.z_isinstance (by decide +kernel) (pa_cons (pv 0) (pa_cons (pe_bltn (v := .ty "str") (by rfl) T.z_str (by decide +kernel) rfl) pa_nil))) (pe_callB call_isi (by rfl) T.z_isinstance (by decide +kernel) (pa_cons (pv 1) (pa_cons (pe_bltn (v := .ty "str") (by rfl) T.z_str (by decide +kernel) rfl) pa_nil))) (nomark _)) (pe_one (pe_cmpR op_eq (pv 0) (pv 1) (nomark _)))))))))), ?_⟩
  rcases h with ⟨rfl, hsc⟩ | ⟨a, b, xs, ys, rfl, rfl, h1, h2, hlen, hsz, hall⟩ | ⟨a, b, xs, ys, rfl, rfl, h1, h2, hlen, hsz, hall⟩
  · cases v with
    | non => 
      · -- none
        refine ⟨_, rfl, _, _, .type "NoneType", .type "dict", false, rfl, .ty _, .base .non, kit_ty (by decide +kernel), _, rfl, iteF ?_⟩
        refine ⟨_, rfl, (by show 2 ≤ sizeLine; decide), fun p np => ?_⟩
        refine ⟨_, p, _, .type "NoneType", [.type "list", .type "tuple"], false, rfl, upd_same, .cons (.ty _) (.cons (.ty _) .nil), .base .non, kitAny_cons (b := false) (kit_ty (by decide +kernel)) (fun _ => kitAny_cons (b := false) (kit_ty (by decide +kernel)) (fun _ => rfl) (fun z => nomatch z)) (fun z => nomatch z), _, rfl, iteF ?_⟩
        refine ⟨_, rfl, rfl, _, rfl, iteT ?_⟩
        refine iteT ?_
        refine ⟨_, rfl, rfl, _, rfl, iteT ?_⟩
        exact ⟨_, rfl, rfl, q _ (same_new np _)⟩
    | bl x => 
      · -- bool
        refine ⟨_, rfl, _, _, .type "bool", .type "dict", false, rfl, .ty _, .base (.bl _), kit_ty (by decide +kernel), _, rfl, iteF ?_⟩
        refine ⟨_, rfl, (by show 2 ≤ sizeLine; decide), fun p np => ?_⟩
        refine ⟨_, p, _, .type "bool", [.type "list", .type "tuple"], false, rfl, upd_same, .cons (.ty _) (.cons (.ty _) .nil), .base (.bl _), kitAny_cons (b := false) (kit_ty (by decide +kernel)) (fun _ => kitAny_cons (b := false) (kit_ty (by decide +kernel)) (fun _ => rfl) (fun z => nomatch z)) (fun z => nomatch z), _, rfl, iteF ?_⟩
        refine ⟨_, rfl, rfl, _, rfl, iteF ⟨_, rfl, rfl, _, rfl, iteF ?_⟩⟩
        refine ⟨_, rfl, _, _, .type "bool", .type "bool", true, rfl, .ty _, .base (.bl _), kit_ty (by decide +kernel), _, rfl, _, _, .type "bool", .type "bool", true, rfl, .ty _, .base (.bl _), kit_ty (by decide +kernel), rfl, _, rfl, iteF ?_⟩
        refine ⟨_, rfl, _, _, .type "bool", .type "int", true, rfl, .ty _, .base (.bl _), kit_ty (by decide +kernel), _, rfl, _, _, .type "bool", .type "int", true, rfl, .ty _, .base (.bl _), kit_ty (by decide +kernel), rfl, _, rfl, iteF ?_⟩
        refine ⟨_, rfl, _, _, .type "bool", .type "str", false, rfl, .ty _, .base (.bl _), kit_ty (by decide +kernel), _, rfl, _, _, .type "bool", .type "str", false, rfl, .ty _, .base (.bl _), kit_ty (by decide +kernel), rfl, _, rfl, iteT ?_⟩
        refine ⟨_, rfl, _, rfl, rfl, ?_⟩
        rw [decide_eq_true rfl]
        exact q _ (same_new np _)
    | int x => 
      · -- int
        refine ⟨_, rfl, _, _, .type "int", .type "dict", false, rfl, .ty _, .base (.int _), kit_ty (by decide +kernel), _, rfl, iteF ?_⟩
        refine ⟨_, rfl, (by show 2 ≤ sizeLine; decide), fun p np => ?_⟩
        refine ⟨_, p, _, .type "int", [.type "list", .type "tuple"], false, rfl, upd_same, .cons (.ty _) (.cons (.ty _) .nil), .base (.int _), kitAny_cons (b := false) (kit_ty (by decide +kernel)) (fun _ => kitAny_cons (b := false) (kit_ty (by decide +kernel)) (fun _ => rfl) (fun z => nomatch z)) (fun z => nomatch z), _, rfl, iteF ?_⟩
        refine ⟨_, rfl, rfl, _, rfl, iteF ⟨_, rfl, rfl, _, rfl, iteF ?_⟩⟩
        refine ⟨_, rfl, _, _, .type "int", .type "bool", false, rfl, .ty _, .base (.int _), kit_ty (by decide +kernel), _, rfl, _, _, .type "int", .type "bool", false, rfl, .ty _, .base (.int _), kit_ty (by decide +kernel), rfl, _, rfl, iteF ?_⟩
        refine ⟨_, rfl, _, _, .type "int", .type "int", true, rfl, .ty _, .base (.int _), kit_ty (by decide +kernel), _, rfl, _, _, .type "int", .type "int", true, rfl, .ty _, .base (.int _), kit_ty (by decide +kernel), rfl, _, rfl, iteF ?_⟩
        refine ⟨_, rfl, _, _, .type "int", .type "str", false, rfl, .ty _, .base (.int _), kit_ty (by decide +kernel), _, rfl, _, _, .type "int", .type "str", false, rfl, .ty _, .base (.int _), kit_ty (by decide +kernel), rfl, _, rfl, iteT ?_⟩
        refine ⟨_, rfl, _, rfl, rfl, ?_⟩
        rw [decide_eq_true rfl]
        exact q _ (same_new np _)
    | str x => 
      · -- str
        refine ⟨_, rfl, _, _, .type "str", .type "dict", false, rfl, .ty _, .base (.str _), kit_ty (by decide +kernel), _, rfl, iteF ?_⟩
        refine ⟨_, rfl, (by show 2 ≤ sizeLine; decide), fun p np => ?_⟩
        refine ⟨_, p, _, .type "str", [.type "list", .type "tuple"], false, rfl, upd_same, .cons (.ty _) (.cons (.ty _) .nil), .base (.str _), kitAny_cons (b := false) (kit_ty (by decide +kernel)) (fun _ => kitAny_cons (b := false) (kit_ty (by decide +kernel)) (fun _ => rfl) (fun z => nomatch z)) (fun z => nomatch z), _, rfl, iteF ?_⟩
        refine ⟨_, rfl, rfl, _, rfl, iteF ⟨_, rfl, rfl, _, rfl, iteF ?_⟩⟩
        refine ⟨_, rfl, _, _, .type "str", .type "bool", false, rfl, .ty _, .base (.str _), kit_ty (by decide +kernel), _, rfl, _, _, .type "str", .type "bool", false, rfl, .ty _, .base (.str _), kit_ty (by decide +kernel), rfl, _, rfl, iteF ?_⟩
        refine ⟨_, rfl, _, _, .type "str", .type "int", false, rfl, .ty _, .base (.str _), kit_ty (by decide +kernel), _, rfl, _, _, .type "str", .type "int", false, rfl, .ty _, .base (.str _), kit_ty (by decide +kernel), rfl, _, rfl, iteF ?_⟩
        refine ⟨_, rfl, _, _, .type "str", .type "str", true, rfl, .ty _, .base (.str _), kit_ty (by decide +kernel), _, rfl, _, _, .type "str", .type "str", true, rfl, .ty _, .base (.str _), kit_ty (by decide +kernel), rfl, _, rfl, iteT ?_⟩
        refine ⟨_, rfl, _, rfl, rfl, ?_⟩
        rw [decide_eq_true rfl]
        exact q _ (same_new np _)
    | _ => cases hsc
  · -- list
    refine ⟨_, rfl, _, _, .type "list", .type "dict", false, rfl, .ty _, (ty_list h2), kit_ty (by decide +kernel), _, rfl, iteF ?_⟩
    refine ⟨_, rfl, (by show 2 ≤ sizeLine; decide), fun p np => ?_⟩
    have g1 := h1
    have g2 := h2
    have sp := same_new np (.tup [.ty "list", .ty "tuple"])
    replace h1 := sp.seq h1
    replace h2 := sp.seq h2
    refine ⟨_, p, _, .type "list", [.type "list", .type "tuple"], true, rfl, upd_same, .cons (.ty _) (.cons (.ty _) .nil), (ty_list h2), kitAny_cons (b := true) (kit_ty (by decide +kernel)) (fun z => nomatch z) (fun _ => rfl), _, rfl, iteT ?_⟩
    refine ⟨_, rfl, _, _, .type "list", .type "list", true, rfl, .ty _, (ty_list h1), kit_ty (by decide +kernel), _, rfl, _, _, .type "list", .type "list", true, rfl, .ty _, (ty_list h2), kit_ty (by decide +kernel), rfl, _, rfl, iteF ?_⟩
    refine ⟨_, rfl, _, _, .type "list", .type "tuple", false, rfl, .ty _, (ty_list h1), kit_ty (by decide +kernel), _, rfl, _, _, .type "list", .type "tuple", false, rfl, .ty _, (ty_list h2), kit_ty (by decide +kernel), rfl, _, rfl, iteF ?_⟩
    refine ⟨_, rfl, _, _, rfl, .inl h1, _, rfl, _, _, rfl, .inl h2, rfl, ?_⟩
    refine ⟨_, rfl, ?_⟩
    rw [show decide (V.int (xs.length : Int) = V.int (ys.length : Int)) = true by rw [hlen]; exact decide_eq_true rfl]
    refine iteT ?_
    refine ⟨_, rfl, _, rfl, _, _, xs, ys, rfl, .inl ⟨h1, h2, fun D nD => ?_⟩⟩
    have sD := same_new nD (.lst [])
    refine lc_it (walk_zip (K := K) (a := a) (b := b) (xs := xs) (ys := ys) (n := xs.length) (by omega)) (fun i H' => Same H H' ∧ H' D = some (.lst ((List.replicate i true).map V.bl))) ⟨sp.trans sD, upd_same⟩ (fun i H' _ hp => ⟨hp.1.seq g1, hp.1.seq g2⟩) ?_ ?_
    · rintro i v H1 H2 hi ⟨hs1, hd1⟩ ⟨P, x, y, rfl, nP, rfl, hx, hy⟩
      have sP := same_new nP (.tup [x, y])
      refine ⟨P, _, rfl, .inl (.inl upd_same), rfl, _, _, rfl, _, _, rfl, rfl, rfl, ?_⟩

      refine ⟨_, rfl, _, rfl, x, y, rfl, (hall i x y hx hy).same (hs1.trans sP), fun H3 s3 => ?_⟩
      refine ⟨_, s3 _ _ (sP _ _ hd1), ?_, ?_, ?_⟩
      · rw [List.length_map, List.length_replicate]
        omega
      · intro c o e
        have nc : c ≠ D := ne_of_none (sp _ _ e) nD
        rw [upd_ne nc]
        exact s3 _ _ (sP _ _ (hs1 _ _ e))
      · rw [upd_same, List.replicate_succ', List.map_append]
        rfl
    · rintro H1 ⟨hs1, hd1⟩
      refine ⟨D, _, rfl, .inl (.inl hd1), ?_⟩
      rw [show (List.replicate xs.length true).all id = true by simp]
      exact q _ hs1
  · -- tuple
    refine ⟨_, rfl, _, _, .type "tuple", .type "dict", false, rfl, .ty _, (ty_tuple h2), kit_ty (by decide +kernel), _, rfl, iteF ?_⟩
    refine ⟨_, rfl, (by show 2 ≤ sizeLine; decide), fun p np => ?_⟩
    have g1 := h1
    have g2 := h2
    have sp := same_new np (.tup [.ty "list", .ty "tuple"])
    replace h1 := sp.seqT h1
    replace h2 := sp.seqT h2
    refine ⟨_, p, _, .type "tuple", [.type "list", .type "tuple"], true, rfl, upd_same, .cons (.ty _) (.cons (.ty _) .nil), (ty_tuple h2), kitAny_cons (b := false) (kit_ty (by decide +kernel)) (fun _ => kitAny_cons (b := true) (kit_ty (by decide +kernel)) (fun z => nomatch z) (fun _ => rfl)) (fun z => nomatch z), _, rfl, iteT ?_⟩
    refine ⟨_, rfl, _, _, .type "tuple", .type "list", false, rfl, .ty _, (ty_tuple h1), kit_ty (by decide +kernel), _, rfl, _, _, .type "tuple", .type "list", false, rfl, .ty _, (ty_tuple h2), kit_ty (by decide +kernel), rfl, _, rfl, iteF ?_⟩
    refine ⟨_, rfl, _, _, .type "tuple", .type "tuple", true, rfl, .ty _, (ty_tuple h1), kit_ty (by decide +kernel), _, rfl, _, _, .type "tuple", .type "tuple", true, rfl, .ty _, (ty_tuple h2), kit_ty (by decide +kernel), rfl, _, rfl, iteF ?_⟩
    refine ⟨_, rfl, _, _, rfl, .inr h1, _, rfl, _, _, rfl, .inr h2, rfl, ?_⟩
    refine ⟨_, rfl, ?_⟩
    rw [show decide (V.int (xs.length : Int) = V.int (ys.length : Int)) = true by rw [hlen]; exact decide_eq_true rfl]
    refine iteT ?_
    refine ⟨_, rfl, _, rfl, _, _, xs, ys, rfl, .inr ⟨h1, h2, fun D nD => ?_⟩⟩
    have sD := same_new nD (.lst [])
    refine lc_it (walk_zipT (K := K) (a := a) (b := b) (xs := xs) (ys := ys) (n := xs.length) (by omega)) (fun i H' => Same H H' ∧ H' D = some (.lst ((List.replicate i true).map V.bl))) ⟨sp.trans sD, upd_same⟩ (fun i H' _ hp => ⟨hp.1.seqT g1, hp.1.seqT g2⟩) ?_ ?_
    · rintro i v H1 H2 hi ⟨hs1, hd1⟩ ⟨P, x, y, rfl, nP, rfl, hx, hy⟩
      have sP := same_new nP (.tup [x, y])
      refine ⟨P, _, rfl, .inl (.inl upd_same), rfl, _, _, rfl, _, _, rfl, rfl, rfl, ?_⟩

      refine ⟨_, rfl, _, rfl, x, y, rfl, (hall i x y hx hy).same (hs1.trans sP), fun H3 s3 => ?_⟩
      refine ⟨_, s3 _ _ (sP _ _ hd1), ?_, ?_, ?_⟩
      · rw [List.length_map, List.length_replicate]
        omega
      · intro c o e
        have nc : c ≠ D := ne_of_none (sp _ _ e) nD
        rw [upd_ne nc]
        exact s3 _ _ (sP _ _ (hs1 _ _ e))
      · rw [upd_same, List.replicate_succ', List.map_append]
        rfl
    · rintro H1 ⟨hs1, hd1⟩
      refine ⟨D, _, rfl, .inl (.inl hd1), ?_⟩
      rw [show (List.replicate xs.length true).all id = true by simp]
      exact q _ hs1
end
end Kx
/-! part KitS -/
/-! sorted of a list of alike data -/
namespace My
open PySem PySem.Spec PyProof.Rows L2
/-- the values beside their data, sorted by these -/
def srtD (xs : List V) (ds : List PyData) : List (V × PyData) := (xs.zip ds).mergeSort (PySem.W.dataLe false Prod.snd)
def rSortedD (K : PySem.W.Frag) : List V → Hp → VK → Prop := fun vs H Q => ∃ (a : Addr) (xs : List V) (ds : List PyData), vs = [.ref a] ∧ SqL K H a xs ∧ DpAll K H xs ds ∧ PySem.W.AllAlike ds ∧ PySem.W.Sortable ds ∧ (∀ d ∈ ds, d.depth ≤ 60) ∧
  ∀ p, H p = none → Q (.ref p) (upd H p (.lst ((srtD xs ds).map Prod.fst)))
theorem dpAll_len {K : PySem.W.Frag} {H : Hp} : ∀ {xs : List V} {ds : List PyData}, DpAll K H xs ds → xs.length = ds.length
  | _, _, .nil => rfl
  | _, _, .cons _ r => by rw [List.length_cons, List.length_cons, dpAll_len r]
theorem zip_snd : ∀ {xs : List V} {ds : List PyData}, xs.length = ds.length → (xs.zip ds).map Prod.snd = ds
  | [], [], _ => rfl
  | x :: xs, d :: ds, h => by
    show d :: (xs.zip ds).map Prod.snd = d :: ds
    rw [zip_snd (Nat.succ.inj h)]
  | [], _ :: _, h => nomatch h
  | _ :: _, [], h => nomatch h
section
variable {X : Cx} {pins : List (Addr × Obj)} {σ : L2.St} {H : Hp} {s : Shared}
theorem each_rel : ∀ {xs : List V} {us : List Value} {ds : List PyData}, Vals xs us → xs.length = ds.length → PySem.W.EachIs (fun v (b : V × PyData) => RelV b.1 v) us (xs.zip ds)
  | [], _, [], .nil, _ => .nil
  | x :: xs, _, d :: ds, .cons r t, h => .cons r (each_rel t (Nat.succ.inj h))
theorem each_reads (I : Inv X pins σ H s) : ∀ {xs : List V} {us : List Value} {ds : List PyData}, DpAll X.K H xs ds → Vals xs us → PySem.W.EachIs (fun v (b : V × PyData) => ∃ as, Reads s.heap v b.2 as) us (xs.zip ds)
  | _, _, _, .nil, .nil => .nil
  | _, _, _, .cons h k, .cons r t => .cons (Dp.reads I _ _ _ h r) (each_reads I k t)
theorem vals_each : ∀ {us : List Value} {bs : List (V × PyData)}, PySem.W.EachIs (fun v (b : V × PyData) => RelV b.1 v) us bs → Vals (bs.map Prod.fst) us
  | _, _, .nil => .nil
  | _, _, .cons r t => .cons r (vals_each t)
theorem cr_sortedD (hu : X.A.units + 64 < cLine) : CallR X (.builtin "sorted") (rSortedD X.K) := by
  intro pins s σ H vs us Q I r h
  obtain ⟨a, xs, ds, rfl, hs, hd, hal, hk, hdep, q⟩ := h
  obtain ⟨its, rv, hl, hz⟩ := I.list hs
  obtain ⟨u, rfl, ru⟩ := vals1 r
  obtain rfl : u = Value.ref a := ru
  have hlen := dpAll_len hd
  have zl : (xs.zip ds).length = xs.length := by rw [List.length_zip, ← hlen, Nat.min_self]
  refine PySem.W.sorted_data (bs := xs.zip ds) (enc := Prod.snd) hl.isList (each_rel rv hlen) (each_reads I hd rv) ?_ ?_ ?_ ?_ fun out lo eo => ?_
  · rw [zip_snd hlen]
    exact hal
  · rw [zip_snd hlen]
    exact hk
  · rw [zl]
    exact hz
  · intro b hb
    have := hdep b.2 (by rw [← zip_snd hlen]; exact List.mem_map.mpr ⟨b, hb, rfl⟩)
    omega
  · obtain ⟨n, hn⟩ := sortedAll_at s.heap its out.toArray
    have hdd : s.heap.objs.size ≤ s.heap.objs.size + 1 := Nat.le_succ _
    have ol : ((srtD xs ds).map Prod.fst).length ≤ sizeLine := by
      unfold srtD
      rw [List.length_map, List.length_mergeSort, zl]
      exact hz
    exact ⟨.ref (s.heap.objs.size + 1), upd H (s.heap.objs.size + 1) (.lst ((srtD xs ds).map Prod.fst)), I.laid (t' := s.toks) (fun b o e => sortedAll_old e) hdd ⟨ol, out, n, vals_each eo, hn⟩, rfl, q _ (I.hok.fresh hdd)⟩
end
end My
/-! part KitU -/
/-! < of alike data; math.lcm -/
namespace My
open PySem PySem.Spec PyProof.Rows L2
def rLtD (K : PySem.W.Frag) : R2 := fun x y H Q => ∃ d e, Dp K H x d ∧ Dp K H y e ∧ PySem.W.alike d e = true ∧ d ≠ .none ∧ d.depth ≤ 60 ∧ Q (.bl (PySem.W.dataLt d e)) H
theorem op_ltD {X : Cx} (hu : X.A.units + 64 < cLine) : OpR X (compareOp .Lt) (rLtD X.K) := by
  intro pins s σ H x y v u Q I rx ry h
  obtain ⟨d, e, hd, he, ha, hn, hz, q⟩ := h
  obtain ⟨as, r1⟩ := Dp.reads I d x v hd rx
  obtain ⟨bs, r2⟩ := Dp.reads I e y u he ry
  exact PySem.W.rcLt_alike d e X.A s v u as bs r1 r2 ha hn (by omega) X.prog X.w X.xe (EP X pins σ Q) ⟨.bl _, H, I, rfl, q⟩
def rLcm : List V → Hp → VK → Prop := fun vs H Q => ∃ a b : Int, vs = [.int a, .int b] ∧ a.natAbs < 2 ^ 64 ∧ b.natAbs < 2 ^ 64 ∧ Q (.int ((Nat.lcm a.natAbs b.natAbs : Nat) : Int)) H
theorem cr_lcm {X : Cx} : CallR X (.builtin "math.lcm") rLcm := by
  intro pins s σ H vs us Q I r h
  obtain ⟨a, b, rfl, ha, hb, q⟩ := h
  obtain ⟨t, u, rfl⟩ := Vals.int2 r
  exact PySem.W.mc_lcm ha hb fun _ => ⟨.int _, H, I.tok _, ⟨_, rfl⟩, q⟩
end My
/-! part KitV -/
/-! list.remove of alike data -/
namespace My
open PySem PySem.Spec PyProof.Rows L2
def rRemD (K : PySem.W.Frag) : V → List V → Hp → VK → Prop := fun x xs H Q => ∃ (l : Addr) (ys : List V) (ds : List PyData) (y : V) (d : PyData) (j : Nat), x = .ref l ∧ xs = [y] ∧ H l = some (.lst ys) ∧ DpAll K H ys ds ∧ Dp K H y d ∧
  PyData.plainAll ds = true ∧ d.plain = true ∧ d.depth ≤ 60 ∧ PySem.SeqAt.dataPlace ds d = some j ∧ Q .non (upd H l (.lst (ys.eraseIdx j)))
theorem mt_removeD {X : Cx} (hu : X.A.units + 64 < cLine) : MtM X "list.remove" (rRemD X.K) := by
  intro pins s σ H x xs v us Q I rx rxs h
  obtain ⟨l, ys, ds, y, d, j, rfl, rfl, hH, hds, hd, pds, pd, dd, hj, q⟩ := h
  cases rx
  obtain ⟨u, rfl, ru⟩ := rxs.one
  obtain ⟨z, its, n, r, hl, e⟩ := I.lstM hH
  obtain ⟨as, rs⟩ := Dp.readsAll I ds _ _ hds r
  obtain ⟨bs, rd⟩ := Dp.reads I d _ _ hd ru
  have hjl : j < ys.length := by
    obtain ⟨h1, _⟩ := List.findIdx?_eq_some_iff_getElem.mp hj
    rw [dpAll_len hds]
    exact h1
  refine PySem.SeqAt.remove_list_data (vs := its.toArray) (l := l) ⟨_, e, rfl, _, rfl⟩ (by simpa using rs) rd pds pd (by omega) hj ?_ ?_
  · rw [List.size_toArray, ← hl]
    exact z
  · have rr := r.eraseIdx j
    refine ⟨.non, _, I.lset (its' := its.eraseIdx j) (t' := s.toks) hH e ?_ rr ?_, rfl, q⟩
    · show its.toArray.eraseIdxIfInBounds j = (its.eraseIdx j).toArray
      rw [List.eraseIdxIfInBounds_toArray]
    · rw [List.length_eraseIdx, if_pos hjl]
      omega
end My
/-! part KitW -/
/-! positions: pairs of numbers above 0 -/
namespace My
open PySem PySem.Spec PyProof.Rows L2
def nV (n : Nat) : V := .int ((n : Nat) : Int)
def lowN (o u : Nat) : Nat × Nat := (o / Nat.gcd o u, u / Nat.gcd o u)
def pV (p : Nat × Nat) : List V := [nV p.1, nV p.2]
/-- a new position -/
def spLow : Sp := fun vs H Q _ => ∃ o u : Nat, vs = [nV o, nV u] ∧ 0 < o ∧ 0 < u ∧ o < 2 ^ 64 ∧ u < 2 ^ 64 ∧ ∀ H' p, Same H H' → H' p = some (.tup (pV (lowN o u))) → Q (.ref p) H'
def spDivisor : Sp := fun vs H Q _ => ∃ o u : Nat, vs = [nV o, nV u] ∧ o < 2 ^ 64 ∧ u < 2 ^ 64 ∧ Q (nV (Nat.gcd o u)) H
def lessP (p q : Nat × Nat) : Bool := decide (p.1 * q.2 < q.1 * p.2)
def spLess (K : PySem.W.Frag) : Sp := fun vs H Q _ => ∃ (a b : Addr) (p q : Nat × Nat), vs = [.ref a, .ref b] ∧ SqT K H a (pV p) ∧ SqT K H b (pV q) ∧ p.1 < 2 ^ 60 ∧ p.2 < 2 ^ 60 ∧ q.1 < 2 ^ 60 ∧ q.2 < 2 ^ 60 ∧ Q (.bl (lessP p q)) H
end My
namespace My
open PySem PySem.Spec PyProof.Rows L2
def CDivB (i j : Int) : Prop := 0 < j ∧ j.natAbs.log2 < 9000
/-- // by a divisor above 0, of any usual size -/
theorem op_fdivB {X : Cx} : OpR X (binaryOp .FloorDiv) (rI CDivB fun i j => .int (i / j)) := opI fun i j _ _ _ _ _ hc q => by
  have h1 : (0 : Int) < j := hc.1
  exact floordiv_int (by omega) (by rw [Int.fdiv_eq_ediv_of_nonneg i (by omega)]; exact q) (.inl (PyProof.noPylong_of_log2 hc.2))
theorem log_nat {n : Nat} (h : n < 2 ^ 64) : ((n : Nat) : Int).natAbs.log2 < 9000 := by
  rw [Int.natAbs_natCast]
  by_cases z : n = 0
  · rw [z]
    decide
  · have q := (Nat.log2_lt (k := 64) z).mpr h
    omega
end My
namespace My
open PySem PySem.Spec PyProof.Rows L2
def midN (p q : Nat × Nat) : Nat × Nat := lowN (p.1 * q.2 + q.1 * p.2) (2 * p.2 * q.2)
structure PosOk (p : Nat × Nat) : Prop where
  o0 : 0 < p.1
  u0 : 0 < p.2
  ob : p.1 < 2 ^ 60
  ub : p.2 < 2 ^ 60
/-- two positions whose middle is of a usual size -/
structure MidOk (p q : Nat × Nat) : Prop where
  a : p.1 * q.2 + q.1 * p.2 < 2 ^ 62
  b : 2 * p.2 * q.2 < 2 ^ 62
def spMid (K : PySem.W.Frag) : Sp := fun vs H Q _ => ∃ (a b : Addr) (p q : Nat × Nat), vs = [.ref a, .ref b] ∧ SqT K H a (pV p) ∧ SqT K H b (pV q) ∧ PosOk p ∧ PosOk q ∧ MidOk p q ∧ ∀ H' c, Same H H' → H' c = some (.tup (pV (midN p q))) → Q (.ref c) H'
/-- None or a position -/
def PosV (K : PySem.W.Frag) (H : Hp) (x : Option (Nat × Nat)) (v : V) : Prop := match x with
  | none => v = .non
  | some p => ∃ a, v = .ref a ∧ SqT K H a (pV p)
def behN : Option (Nat × Nat) → Option (Nat × Nat) → Option (Nat × Nat)
  | none, none => some (1, 1)
  | none, some q => some (lowN q.1 (2 * q.2))
  | some p, none => some (lowN (p.1 + p.2) p.2)
  | some p, some q => if p = q then none else some (midN p q)
def BehOk (x y : Option (Nat × Nat)) : Prop := (∀ p, x = some p → PosOk p) ∧ (∀ q, y = some q → PosOk q) ∧ ∀ p q, x = some p → y = some q → MidOk p q
def spBeh (K : PySem.W.Frag) : Sp := fun vs H Q _ => ∃ (v w : V) (x y : Option (Nat × Nat)), vs = [v, w] ∧ PosV K H x v ∧ PosV K H y w ∧ BehOk x y ∧ ∀ H' u, Same H H' → PosV K H' (behN x y) u → Q u H'
def pD (p : Nat × Nat) : PyData := .tuple [.int ((p.1 : Nat) : Int), .int ((p.2 : Nat) : Int)]
theorem pD_dp {K : PySem.W.Frag} {H : Hp} {a : Addr} {p : Nat × Nat} (h : SqT K H a (pV p)) : Dp K H (.ref a) (pD p) := .tup h (.cons (.int _) (.cons (.int _) .nil))
theorem pD_shaped (p : Nat × Nat) : SeqAt.shaped (pD p) = true := by
  have d : PyData.depth (pD p) = 1 := by simp [pD, PyData.depth, PyData.depthAll]
  show (PyData.canLayAll0 _ && decide (PyData.depth (pD p) ≤ 64)) = true
  rw [d]
  simp [PyData.canLayAll0, PyData.canLay0]
theorem pD_eqv (p q : Nat × Nat) : PyData.eqv (pD p) (pD q) = decide (p = q) := by
  obtain ⟨a, b⟩ := p
  obtain ⟨c, d⟩ := q
  unfold pD
  simp [PyData.eqv, PyData.eqvAll]
  have e : ∀ m n : Nat, (((m : Nat) : Int) == ((n : Nat) : Int)) = decide (m = n) := fun m n => by
    by_cases h : m = n
    · rw [h, decide_eq_true rfl]
      exact beq_self_eq_true _
    · rw [decide_eq_false h]
      exact beq_eq_false_iff_ne.mpr (by omega)
  rw [e, e]
end My
/-! part K03d -/
namespace Kx
open PySem PySem.Spec PyProof.Rows L2 My
section
variable {P : Program} {w : World} {K : PySem.W.Frag} {mg : Str → Option Value} {base : Heap} (T : Tx K mg)
theorem ok_lowest : FnOk P w K mg base CX0 1 T.f_lowest T.d_lowest ["over", "under"] spLow := by
  refine T.F_lowest.ok sc_lowest (fun vs H Q E h => ?_) (fun cdv A outer s H vs Q E hr h => ?_)
  · obtain ⟨o, u, rfl, _⟩ := h
    rfl
  obtain ⟨o, u, rfl, o0, u0, ob, ub, q⟩ := h
  refine ⟨_, (pss_cons (ps_set (i := 2) sc_lowest.nd rfl (Or.inl rfl) (pe_callBfun cr_gcd (by rfl) T.g_gcd (pa_cons (pv 0) (pa_cons (pv 1) pa_nil))))
  (pss_one (ps_ret (pe_tup (pa_cons (pe_op op_fdivB (pv 0) (pv 2)) (pa_cons (pe_op op_fdivB (pv 1) (pv 2)) pa_nil)))))), ?_⟩
  have g0 : 0 < Nat.gcd o u := Nat.gcd_pos_of_pos_left _ o0
  have gl : Nat.gcd o u < 2 ^ 64 := Nat.lt_of_le_of_lt (Nat.gcd_le_left _ o0) ob
  refine ⟨_, rfl, _, rfl, (o : Int), (u : Int), rfl, ?_⟩
  rw [Int.natAbs_natCast, Int.natAbs_natCast]
  refine ⟨_, rfl, _, rfl, _, _, rfl, rfl, ⟨by omega, log_nat gl⟩, ?_⟩
  refine ⟨_, rfl, _, rfl, _, _, rfl, rfl, ⟨by omega, log_nat gl⟩, (by show 2 ≤ sizeLine; decide), fun p np => ?_⟩
  exact q _ p (same_new np _) upd_same
theorem ok_divisor : FnOk P w K mg base CX0 1 T.f__law_divisor T.d__law_divisor ["_law_a", "_law_b"] spDivisor := by
  refine T.F__law_divisor.ok sc__law_divisor (fun vs H Q E h => ?_) (fun cdv A outer s H vs Q E hr h => ?_)
  · obtain ⟨o, u, rfl, _⟩ := h
    rfl
  obtain ⟨o, u, rfl, ob, ub, q⟩ := h
  refine ⟨_, (pss_cons (ps_while PassesOwn.never (pt_cmpR op_gt (pv 1) pe_int (nomark _))
    (pss_one (ps_par (i := 0) (j := 1) (by rfl) sc__law_divisor.nd rfl rfl (by decide) rfl rfl (pa_cons (pv 1) (pa_cons (pe_op op_mod (pe_callTy call_int1 (by rfl) T.z_int (by decide +kernel) (pa_cons (pv 0) pa_nil)) (pv 1)) pa_nil)) (by rfl))))
  (pss_one (ps_ret (pv 0)))), ?_⟩
  refine while_by (fun σ H' => ∃ a b : Nat, σ = [some (nV a), some (nV b)] ∧ H' = H ∧ Nat.gcd a b = Nat.gcd o u)
    (fun σ _ => match σ[1]? with | some (some (V.int i)) => i.toNat | _ => 0) ⟨o, u, rfl, rfl, rfl⟩ ?_ ?_
  · rintro σ H' ⟨a, b, rfl, rfl, hg⟩
    refine ⟨_, rfl, _, _, rfl, rfl, _, rfl, ?_⟩
    refine ite2 (fun c => ?_) (fun c => ?_)
    · have b0 : 0 < b := by
        have := of_decide_eq_true c
        omega
      refine ⟨_, rfl, _, rfl, .inl ⟨(a : Int), rfl, _, rfl, _, _, rfl, rfl, (by omega), _, _, rfl, ?_⟩⟩
      refine ⟨⟨b, a % b, ?_, rfl, ?_⟩, ?_⟩
      · show [some (V.int (b : Int)), some (V.int ((a : Int) % (b : Int)))] = [some (V.int (b : Int)), some (V.int ((a % b : Nat) : Int))]
        rw [Int.natCast_emod]
      · rw [← hg, Nat.gcd_comm a b, Nat.gcd_rec b a, Nat.gcd_comm]
      · show ((a : Int) % (b : Int)).toNat < ((b : Nat) : Int).toNat
        have h2 := Nat.mod_lt a b0
        omega
    · have b0 : b = 0 := by
        have : ¬ (b : Int) > 0 := fun z => c (decide_eq_true z)
        omega
      subst b0
      rw [Nat.gcd_zero_right] at hg
      subst hg
      exact ⟨_, rfl, q⟩
  · intro σ H1 Q1 Q2 k h
    obtain ⟨v, h1, i, j, h2, h3, c, h4, h5⟩ := h
    exact ⟨v, h1, i, j, h2, h3, c, h4, k _ _ h5⟩
theorem ok_law_low : FnOk P w K mg base CX0 2 T.f__law_low T.d__law_low ["_law_over_z", "_law_under_z"] spLow := by
  have G__law_divisor := ok_divisor (P := P) (w := w) (base := base) T
  refine T.F__law_low.ok sc__law_low (fun vs H Q E h => ?_) (fun cdv A outer s H vs Q E hr h => ?_)
  · obtain ⟨o, u, rfl, _⟩ := h
    rfl
  obtain ⟨o, u, rfl, o0, u0, ob, ub, q⟩ := h
  refine ⟨_, (pss_cons (ps_set (i := 2) sc__law_low.nd rfl (Or.inl rfl) (pe_call G__law_divisor (hr.mono (by decide)) (by rfl) T.g__law_divisor T.F__law_divisor.kp T.b__law_divisor .nil pass0 (pa_cons (pv 0) (pa_cons (pv 1) pa_nil))))
  (pss_one (ps_ret (pe_tup (pa_cons (pe_op op_fdivB (pv 0) (pv 2)) (pa_cons (pe_op op_fdivB (pv 1) (pv 2)) pa_nil)))))), ?_⟩
  have g0 : 0 < Nat.gcd o u := Nat.gcd_pos_of_pos_left _ o0
  have gl : Nat.gcd o u < 2 ^ 64 := Nat.lt_of_le_of_lt (Nat.gcd_le_left _ o0) ob
  refine ⟨_, rfl, _, rfl, o, u, rfl, ob, ub, ?_⟩
  refine ⟨_, rfl, _, rfl, _, _, rfl, rfl, ⟨by omega, log_nat gl⟩, ?_⟩
  refine ⟨_, rfl, _, rfl, _, _, rfl, rfl, ⟨by omega, log_nat gl⟩, (by show 2 ≤ sizeLine; decide), fun p np => ?_⟩
  exact q _ p (same_new np _) upd_same
theorem ok_law_less : FnOk P w K mg base CX0 1 T.f__law_less T.d__law_less ["_law_one_z", "_law_other_z"] (spLess K) := by
  refine T.F__law_less.ok sc__law_less (fun vs H Q E h => ?_) (fun cdv A outer s H vs Q E hr h => ?_)
  · obtain ⟨a, b, p, r, rfl, _⟩ := h
    rfl
  obtain ⟨a, b, p, r, rfl, hp, hr2, b1, b2, b3, b4, q⟩ := h
  refine ⟨_, (pss_one (ps_ret (pe_cmpR op_lt (pe_op op_mul (pe_ix (k_ix_tup K) (pv 0) pe_int (fun _ _ => rfl)) (pe_ix (k_ix_tup K) (pv 1) pe_int (fun _ _ => rfl))) (pe_op op_mul (pe_ix (k_ix_tup K) (pv 1) pe_int (fun _ _ => rfl)) (pe_ix (k_ix_tup K) (pv 0) pe_int (fun _ _ => rfl))) (nomark _)))), ?_⟩
  refine ⟨_, rfl, a, _, 0, _, rfl, rfl, hp, rfl, _, rfl, b, _, 1, _, rfl, rfl, hr2, rfl, _, _, rfl, rfl, .inl ⟨by omega, by omega⟩, ?_⟩
  refine ⟨_, rfl, b, _, 0, _, rfl, rfl, hr2, rfl, _, rfl, a, _, 1, _, rfl, rfl, hp, rfl, _, _, rfl, rfl, .inl ⟨by omega, by omega⟩, ?_⟩
  refine ⟨_, _, rfl, rfl, ?_⟩
  have e : decide ((p.1 : Int) * (r.2 : Int) < (r.1 : Int) * (p.2 : Int)) = lessP p r := by
    unfold lessP
    have : ((p.1 : Int) * (r.2 : Int) < (r.1 : Int) * (p.2 : Int)) ↔ p.1 * r.2 < r.1 * p.2 := by
      rw [← Int.natCast_mul, ← Int.natCast_mul, Int.ofNat_lt]
    simp only [this]
  rw [← e] at q
  exact q
end
end Kx
/-! part K03e -/
namespace Kx
open PySem PySem.Spec PyProof.Rows L2 My
section
variable {P : Program} {w : World} {K : PySem.W.Frag} {mg : Str → Option Value} {base : Heap} (T : Tx K mg)
theorem ok_is_below : FnOk P w K mg base CX0 1 T.f_is_below T.d_is_below ["one", "other"] (spLess K) := by
  refine T.F_is_below.ok sc_is_below (fun vs H Q E h => ?_) (fun cdv A outer s H vs Q E hr h => ?_)
  · obtain ⟨a, b, p, r, rfl, _⟩ := h
    rfl
  obtain ⟨a, b, p, r, rfl, hp, hr2, b1, b2, b3, b4, q⟩ := h
  refine ⟨_, (pss_cons (ps_asg (pv 0) (pg_tup (by rfl) (pgs_cons (pg_name (i := 2) sc_is_below.nd rfl (Or.inl rfl)) (pgs_cons (pg_name (i := 3) sc_is_below.nd rfl (Or.inl rfl)) pgs_nil))))
  (pss_cons (ps_asg (pv 1) (pg_tup (by rfl) (pgs_cons (pg_name (i := 4) sc_is_below.nd rfl (Or.inl rfl)) (pgs_cons (pg_name (i := 5) sc_is_below.nd rfl (Or.inl rfl)) pgs_nil))))
  (pss_one (ps_ret (pe_cmpR op_lt (pe_op op_mul (pv 2) (pv 5)) (pe_op op_mul (pv 4) (pv 3)) (nomark _)))))), ?_⟩
  refine ⟨_, rfl, a, _, rfl, hp, rfl, _, _, rfl, ⟨_, _, rfl, ⟨rfl, ?_⟩⟩⟩
  refine ⟨_, rfl, b, _, rfl, hr2, rfl, _, _, rfl, ⟨_, _, rfl, ⟨rfl, ?_⟩⟩⟩
  refine ⟨_, rfl, _, rfl, _, _, rfl, rfl, .inl ⟨by omega, by omega⟩, ?_⟩
  refine ⟨_, rfl, _, rfl, _, _, rfl, rfl, .inl ⟨by omega, by omega⟩, ?_⟩
  refine ⟨_, _, rfl, rfl, ?_⟩
  have e : decide ((p.1 : Int) * (r.2 : Int) < (r.1 : Int) * (p.2 : Int)) = lessP p r := by
    unfold lessP
    have : ((p.1 : Int) * (r.2 : Int) < (r.1 : Int) * (p.2 : Int)) ↔ p.1 * r.2 < r.1 * p.2 := by
      rw [← Int.natCast_mul, ← Int.natCast_mul, Int.ofNat_lt]
    simp only [this]
  rw [← e] at q
  exact q
theorem ok_middle : FnOk P w K mg base CX0 2 T.f_middle T.d_middle ["one", "other"] (spMid K) := by
  have G_lowest := ok_lowest (P := P) (w := w) (base := base) T
  refine T.F_middle.ok sc_middle (fun vs H Q E h => ?_) (fun cdv A outer s H vs Q E hr h => ?_)
  · obtain ⟨a, b, p, r, rfl, _⟩ := h
    rfl
  obtain ⟨a, b, p, r, rfl, hp, hr2, kp, kr, km, q⟩ := h
  refine ⟨_, (pss_cons (ps_asg (pv 0) (pg_tup (by rfl) (pgs_cons (pg_name (i := 2) sc_middle.nd rfl (Or.inl rfl)) (pgs_cons (pg_name (i := 3) sc_middle.nd rfl (Or.inl rfl)) pgs_nil))))
  (pss_cons (ps_asg (pv 1) (pg_tup (by rfl) (pgs_cons (pg_name (i := 4) sc_middle.nd rfl (Or.inl rfl)) (pgs_cons (pg_name (i := 5) sc_middle.nd rfl (Or.inl rfl)) pgs_nil))))
  (pss_one (ps_ret (pe_call G_lowest (hr.mono (by decide)) (by rfl) T.g_lowest T.F_lowest.kp T.b_lowest .nil pass0 (pa_cons (pe_op op_add (pe_op op_mul (pv 2) (pv 5)) (pe_op op_mul (pv 4) (pv 3))) (pa_cons (pe_op op_mul (pe_op op_mul pe_int (pv 3)) (pv 5)) pa_nil))))))), ?_⟩
  have := kp.ob
  have := kp.ub
  have := kr.ob
  have := kr.ub
  refine ⟨_, rfl, a, _, rfl, hp, rfl, _, _, rfl, ⟨_, _, rfl, ⟨rfl, ?_⟩⟩⟩
  refine ⟨_, rfl, b, _, rfl, hr2, rfl, _, _, rfl, ⟨_, _, rfl, ⟨rfl, ?_⟩⟩⟩
  refine ⟨_, rfl, _, rfl, _, _, rfl, rfl, .inl ⟨by omega, by omega⟩, ?_⟩
  refine ⟨_, rfl, _, rfl, _, _, rfl, rfl, .inl ⟨by omega, by omega⟩, ?_⟩
  refine ⟨_, _, rfl, rfl, ?_⟩
  refine ⟨_, rfl, _, _, rfl, rfl, .inl ⟨by omega, by omega⟩, _, rfl, _, _, rfl, rfl, .inr ⟨by omega, by omega⟩, ?_⟩
  have e1 : ((p.1 : Int) * (r.2 : Int) + (r.1 : Int) * (p.2 : Int)) = ((p.1 * r.2 + r.1 * p.2 : Nat) : Int) := by
    rw [Int.natCast_add, Int.natCast_mul, Int.natCast_mul]
  have e2 : ((2 : Int) * (p.2 : Int) * (r.2 : Int)) = ((2 * p.2 * r.2 : Nat) : Int) := by
    rw [Int.natCast_mul, Int.natCast_mul]
    rfl
  refine ⟨p.1 * r.2 + r.1 * p.2, 2 * p.2 * r.2, ?_, ?_, ?_, ?_, ?_, q⟩
  · show [V.int ((p.1 : Int) * (r.2 : Int) + (r.1 : Int) * (p.2 : Int)), V.int ((2 : Int) * (p.2 : Int) * (r.2 : Int))] = _
    rw [e1, e2]
    rfl
  · exact Nat.lt_of_lt_of_le (Nat.mul_pos kp.o0 kr.u0) (Nat.le_add_right _ _)
  · exact Nat.mul_pos (Nat.mul_pos (by decide) kp.u0) kr.u0
  · exact Nat.lt_trans km.a (by decide)
  · exact Nat.lt_trans km.b (by decide)
end
end Kx
/-! part K03f -/
namespace Kx
open PySem PySem.Spec PyProof.Rows L2 My
section
variable {P : Program} {w : World} {K : PySem.W.Frag} {mg : Str → Option Value} {base : Heap} (T : Tx K mg)
theorem ok_behind : FnOk P w K mg base CX0 3 T.f_position_behind T.d_position_behind ["one", "other"] (spBeh K) := by
  have G_lowest := ok_lowest (P := P) (w := w) (base := base) T
  have G_middle := ok_middle (P := P) (w := w) (base := base) T
  refine T.F_position_behind.ok sc_position_behind (fun vs H Q E h => ?_) (fun cdv A outer s H vs Q E hr h => ?_)
  · obtain ⟨v, v2, x, y, rfl, _⟩ := h
    rfl
  obtain ⟨v, v2, x, y, rfl, hx, hy, ⟨k1, k2, k3⟩, q⟩ := h
  refine ⟨_, (pss_cons (ps_if (PW.pt (pw_and (pt_cmpR op_isN (pv 0) pe_non (nomark _)) (pw_and1 (pt_cmpR op_isN (pv 1) pe_non (nomark _)))))
    (pss_one (ps_ret (pe_tup (pa_cons pe_int (pa_cons pe_int pa_nil)))))
    pss_nil)
  (pss_cons (ps_if (pt_cmpR op_isN (pv 0) pe_non (nomark _))
    (pss_cons (ps_asg (pv 1) (pg_tup (by rfl) (pgs_cons (pg_name (i := 2) sc_position_behind.nd rfl (Or.inl rfl)) (pgs_cons (pg_name (i := 3) sc_position_behind.nd rfl (Or.inl rfl)) pgs_nil))))
    (pss_one (ps_ret (pe_call G_lowest (hr.mono (by decide)) (by rfl) T.g_lowest T.F_lowest.kp T.b_lowest .nil pass0 (pa_cons (pv 2) (pa_cons (pe_op op_mul pe_int (pv 3)) pa_nil))))))
    pss_nil)
  (pss_cons (ps_if (pt_cmpR op_isN (pv 1) pe_non (nomark _))
    (pss_cons (ps_asg (pv 0) (pg_tup (by rfl) (pgs_cons (pg_name (i := 2) sc_position_behind.nd rfl (Or.inl rfl)) (pgs_cons (pg_name (i := 3) sc_position_behind.nd rfl (Or.inl rfl)) pgs_nil))))
    (pss_one (ps_ret (pe_call G_lowest (hr.mono (by decide)) (by rfl) T.g_lowest T.F_lowest.kp T.b_lowest .nil pass0 (pa_cons (pe_op op_add (pv 2) (pv 3)) (pa_cons (pv 3) pa_nil))))))
    pss_nil)
  (pss_cons (ps_if (pt_cmpR (k_op_eqD K rfl hr.units) (pv 0) (pv 1) (nomark _))
    (pss_one (ps_ret pe_non))
    pss_nil)
  (pss_one (ps_ret (pe_call G_middle (hr.mono (by decide)) (by rfl) T.g_middle T.F_middle.kp T.b_middle .nil pass0 (pa_cons (pv 0) (pa_cons (pv 1) pa_nil))))))))), ?_⟩
  have isn : ∀ a : Addr, decide (V.ref a = V.non) = false := fun a => decide_eq_false (fun z => nomatch z)
  cases x with
  | none =>
    obtain rfl : v = .non := hx
    cases y with
    | none =>
      obtain rfl : v2 = .non := hy
      refine ⟨_, rfl, rfl, _, rfl, iteT ⟨_, rfl, rfl, _, rfl, iteT ⟨(by show 2 ≤ sizeLine; decide), fun p np => ?_⟩⟩⟩
      exact q _ _ (same_new np _) ⟨p, rfl, .inl (.inl upd_same)⟩
    | some r =>
      obtain ⟨b, rfl, hb⟩ := hy
      have kr := k2 r rfl
      have := kr.ob
      have := kr.ub
      refine ⟨_, rfl, rfl, _, rfl, iteT ⟨_, rfl, rfl, _, rfl, ?_⟩⟩
      rw [isn]
      refine iteF ⟨_, rfl, rfl, _, rfl, iteT ?_⟩
      refine ⟨_, rfl, b, _, rfl, hb, rfl, _, _, rfl, ⟨_, _, rfl, ⟨rfl, ?_⟩⟩⟩
      refine ⟨_, rfl, _, rfl, _, _, rfl, rfl, .inl ⟨by decide, by decide⟩, r.1, 2 * r.2, ?_, kr.o0, Nat.mul_pos (by decide) kr.u0, by omega, by omega, fun H' c s' e => ?_⟩
      · show [V.int (r.1 : Int), V.int (2 * (r.2 : Int))] = [V.int (r.1 : Int), V.int ((2 * r.2 : Nat) : Int)]
        rw [Int.natCast_mul]
        rfl
      · exact q _ _ s' ⟨c, rfl, .inl (.inl e)⟩
  | some p =>
    obtain ⟨a, rfl, ha⟩ := hx
    have kp := k1 p rfl
    have := kp.ob
    have := kp.ub
    refine ⟨_, rfl, rfl, _, rfl, ?_⟩
    rw [isn]
    refine iteF ⟨_, rfl, rfl, _, rfl, ?_⟩
    rw [isn]
    refine iteF ⟨_, rfl, rfl, _, rfl, ?_⟩
    cases y with
    | none =>
      obtain rfl : v2 = .non := hy
      refine iteT ?_
      refine ⟨_, rfl, a, _, rfl, ha, rfl, _, _, rfl, ⟨_, _, rfl, ⟨rfl, ?_⟩⟩⟩
      refine ⟨_, rfl, _, rfl, _, _, rfl, rfl, _, rfl, p.1 + p.2, p.2, ?_, by have := kp.o0; omega, kp.u0, by omega, by omega, fun H' c s' e => ?_⟩
      · show [V.int ((p.1 : Int) + (p.2 : Int)), V.int (p.2 : Int)] = [V.int ((p.1 + p.2 : Nat) : Int), V.int (p.2 : Int)]
        rw [Int.natCast_add]
      · exact q _ _ s' ⟨c, rfl, .inl (.inl e)⟩
    | some r =>
      obtain ⟨b, rfl, hb⟩ := hy
      have kr := k2 r rfl
      rw [isn]
      refine iteF ⟨_, rfl, _, rfl, pD p, pD r, pD_dp ha, pD_dp hb, pD_shaped p, pD_shaped r, _, rfl, ?_⟩
      rw [pD_eqv]
      refine ite2 (fun c => ?_) (fun c => ?_)
      · refine q _ _ (Same.refl _) ?_
        show PosV K H (if p = r then none else some (midN p r)) .non
        rw [if_pos (of_decide_eq_true c)]
        rfl
      · refine ⟨_, rfl, _, rfl, a, b, p, r, rfl, ha, hb, kp, kr, k3 p r rfl rfl, fun H' c' s' e => ?_⟩
        refine q _ _ s' ?_
        show PosV K H' (if p = r then none else some (midN p r)) _
        rw [if_neg (fun z => c (decide_eq_true z))]
        exact ⟨c', rfl, .inl (.inl e)⟩
end
end Kx
/-! part KitX -/
namespace My
open PySem PySem.Spec PyProof.Rows L2
/-- a drawn position: small, in lowest terms -/
structure Drawn' (p : Nat × Nat) : Prop where
  o0 : 0 < p.1
  ob : p.1 ≤ 2000000
  du : p.2 ∣ 2 ^ 20
  co : Nat.Coprime p.1 p.2
theorem Drawn'.u0 {p : Nat × Nat} (h : Drawn' p) : 0 < p.2 := Nat.pos_of_dvd_of_pos h.du (by decide)
theorem Drawn'.ub {p : Nat × Nat} (h : Drawn' p) : p.2 ≤ 2 ^ 20 := Nat.le_of_dvd (by decide) h.du
theorem Drawn'.low {o k : Nat} (h0 : 0 < o) (h1 : o ≤ 2000000) (hk : k ≤ 20) : Drawn' (lowN o (2 ^ k)) := by
  have g0 : 0 < Nat.gcd o (2 ^ k) := Nat.gcd_pos_of_pos_left _ h0
  refine ⟨Nat.div_pos (Nat.gcd_le_left _ h0) g0, Nat.le_trans (Nat.div_le_self _ _) h1, ?_, Nat.coprime_div_gcd_div_gcd g0⟩
  exact Nat.dvd_trans (Nat.div_dvd_of_dvd (Nat.gcd_dvd_right _ _)) (Nat.pow_dvd_pow 2 hk)
def spPos : Sp := fun vs H Q _ => ∃ b : Addr, vs = [.ref b] ∧ IsBag H b ∧ ∀ H' c p, Same H H' → H' c = some (.tup (pV p)) → Drawn' p → p.1 ≤ 200 → Q (.ref c) H'
def spMixed (K : PySem.W.Frag) : Sp := fun vs H Q _ => ∃ (b l : Addr) (xs : List V), vs = [.ref b, .ref l] ∧ IsBag H b ∧ SqL K H l xs ∧ xs.length ≤ 1000 ∧ ∀ H' c ys, Same H H' → H c = none → H' c = some (.lst ys) → ys.Perm xs → Q (.ref c) H'
end My
/-! part K03g -/
namespace Kx
open PySem PySem.Spec PyProof.Rows L2 My
section
variable {P : Program} {w : World} {K : PySem.W.Frag} {mg : Str → Option Value} {base : Heap} (T : Tx K mg)
theorem ok_position : FnOk P w K mg base CX0 3 T.f__law_position T.d__law_position ["_law_bag_here"] spPos := by
  have G__law_draw := ok_draw (P := P) (w := w) (base := base) T
  have G__law_of := ok_of (P := P) (w := w) (base := base) T
  have G__law_low := ok_law_low (P := P) (w := w) (base := base) T
  refine T.F__law_position.ok sc__law_position (fun vs H Q E h => ?_) (fun cdv A outer s H vs Q E hr h => ?_)
  · obtain ⟨b, rfl, _⟩ := h
    rfl
  obtain ⟨b, rfl, hb, q⟩ := h
  refine ⟨_, (pss_one (ps_ret (pe_call G__law_low (hr.mono (by decide)) (by rfl) T.g__law_low T.F__law_low.kp T.b__law_low .nil pass0 (pa_cons (pe_op op_add pe_int (pe_call G__law_draw (hr.mono (by decide)) (by rfl) T.g__law_draw T.F__law_draw.kp T.b__law_draw .nil pass0 (pa_cons (pv 0) (pa_cons (pe_call G__law_of (hr.mono (by decide)) (by rfl) T.g__law_of T.F__law_of.kp T.b__law_of .nil pass0 (pa_cons (pv 0) (pa_cons (pe_lst (pa_cons pe_int (pa_cons pe_int (pa_cons pe_int pa_nil)))) pa_nil))) pa_nil)))) (pa_cons (pe_op op_shl pe_int (pe_call G__law_of (hr.mono (by decide)) (by rfl) T.g__law_of T.F__law_of.kp T.b__law_of .nil pass0 (pa_cons (pv 0) (pa_cons (pe_lst (pa_cons pe_int (pa_cons pe_int (pa_cons pe_int (pa_cons pe_int (pa_cons pe_int (pa_cons pe_int pa_nil))))))) pa_nil)))) pa_nil))))), ?_⟩
  refine ⟨_, rfl, _, rfl, (by show 3 ≤ sizeLine; decide), fun p1 np1 => ?_⟩
  generalize hX : upd _ p1 _ = H1
  obtain ⟨s1, e1⟩ := new_at hX np1
  clear hX
  refine ⟨b, p1, _, rfl, hb.same s1, .inl (.inl e1), (by show 0 < 3; decide), (by show 3 ≤ 1000000; decide), fun i v hv => ?_⟩
  have hm : ∃ m : Int, v = .int m ∧ 0 < m ∧ m ≤ 200 := by
    have mem := List.mem_of_getElem? hv
    simp only [List.mem_cons, List.not_mem_nil, or_false] at mem
    rcases mem with e | e | e
    · exact ⟨3, e, by decide, by decide⟩
    · exact ⟨9, e, by decide, by decide⟩
    · exact ⟨200, e, by decide, by decide⟩
  obtain ⟨m, rfl, m0, m1⟩ := hm
  refine ⟨b, m, rfl, hb.same s1, m0, by omega, fun d d0 d1 => ⟨_, _, rfl, rfl, ?_⟩⟩
  refine ⟨_, rfl, (by show 6 ≤ sizeLine; decide), fun p2 np2 => ?_⟩
  generalize hX : upd _ p2 _ = H2
  obtain ⟨s2, e2⟩ := new_at hX np2
  clear hX
  refine ⟨b, p2, _, rfl, hb.same (s1.trans s2), .inl (.inl e2), (by show 0 < 6; decide), (by show 6 ≤ 1000000; decide), fun i2 v2 hv2 => ?_⟩
  have hk : ∃ k : Nat, v2 = .int ((k : Nat) : Int) ∧ k ≤ 20 := by
    have mem := List.mem_of_getElem? hv2
    simp only [List.mem_cons, List.not_mem_nil, or_false] at mem
    rcases mem with e | e | e | e | e | e
    · exact ⟨0, e, by decide⟩
    · exact ⟨0, e, by decide⟩
    · exact ⟨1, e, by decide⟩
    · exact ⟨2, e, by decide⟩
    · exact ⟨5, e, by decide⟩
    · exact ⟨20, e, by decide⟩
  obtain ⟨k, rfl, k1⟩ := hk
  refine ⟨_, _, rfl, rfl, ⟨by omega, by omega, by decide⟩, ?_⟩
  have pk : (2 : Nat) ^ k ≤ 2 ^ 20 := Nat.pow_le_pow_right (by decide) k1
  have lw := Drawn'.low (o := (1 + d).toNat) (k := k) (by omega) (by omega) k1
  refine ⟨(1 + d).toNat, 2 ^ k, ?_, by omega, Nat.pow_pos (by decide), by omega, Nat.lt_of_le_of_lt pk (by decide), fun H' c s' e => q _ _ _ (s1.trans (s2.trans s')) e lw ?_⟩
  · show [V.int (1 + d), V.int (1 * 2 ^ ((k : Nat) : Int).toNat)] = [V.int (((1 + d).toNat : Nat) : Int), V.int ((2 ^ k : Nat) : Int)]
    rw [Int.toNat_natCast, Int.one_mul, Int.toNat_of_nonneg (by omega), Int.natCast_pow]
    rfl
  · exact Nat.le_trans (Nat.div_le_self _ _) (by omega)
theorem ok_mixed : FnOk P w K mg base CX0 2 T.f__law_mixed T.d__law_mixed ["_law_bag_here", "_law_some"] (spMixed K) := by
  have G__law_draw := ok_draw (P := P) (w := w) (base := base) T
  refine T.F__law_mixed.ok sc__law_mixed (fun vs H Q E h => ?_) (fun cdv A outer s H vs Q E hr h => ?_)
  · obtain ⟨b, l, xs, rfl, _⟩ := h
    rfl
  obtain ⟨b, l, xs, rfl, hb, hl, hz, q⟩ := h
  refine ⟨_, (pss_cons (ps_set (i := 2) sc__law_mixed.nd rfl (Or.inl rfl) (pe_lst pa_nil))
  (pss_cons (ps_for PassesOwn.never rfl (pi_list (pv 1)) (pg_name (i := 3) sc__law_mixed.nd rfl (Or.inl rfl))
    (pss_one (ps_expr (pe_bm PySem.F.plainAttrs_list PySem.F.slot_list_insert PySem.F.type_list_insert mt_insert (pv 2) (pa_cons (pe_call G__law_draw (hr.mono (by decide)) (by rfl) T.g__law_draw T.F__law_draw.kp T.b__law_draw .nil pass0 (pa_cons (pv 0) (pa_cons (pe_op op_add (pe_callB (k_call_len_seq K) (by rfl) T.z_len (by decide +kernel) (pa_cons (pv 2) pa_nil)) pe_int) pa_nil))) (pa_cons (pv 3) pa_nil))))))
  (pss_one (ps_ret (pv 2))))), ?_⟩
  refine ⟨(by show 0 ≤ sizeLine; decide), fun f nf => ?_⟩
  refine ⟨_, rfl, l, rfl, ⟨_, ((same_new nf _).seq hl)⟩, ?_⟩
  refine for_list (K := K) (a := l) (xs := xs) (fun j σ H' => ∃ x3 ys, σ = [some (.ref b), some (.ref l), some (.ref f), x3] ∧ Same H H' ∧ H' f = some (.lst ys) ∧ ys.Perm (xs.take j)) ⟨_, [], rfl, same_new nf _, upd_same, .refl _⟩ (fun j σ H' _ ⟨_, _, _, s', _⟩ => s'.seq hl) ?_ ?_
  · rintro j v σ H2 hv ⟨x3, ys, rfl, s2, e2, pm⟩
    have yl : ys.length ≤ 1000 := by
      rw [pm.length_eq, List.length_take]
      omega
    refine ⟨_, rfl, .inl ⟨rfl, _, .inl (.inl e2)⟩, ?_⟩
    refine ⟨_, rfl, _, rfl, f, ys, rfl, .inl (.inl (.inl e2)), _, _, rfl, rfl, b, _, rfl, hb.same s2, by omega, by omega, fun d d0 d1 => ?_⟩
    refine ⟨_, rfl, f, ys, d, v, rfl, rfl, e2, (by unfold sizeLine; omega), d0, by omega, ?_⟩
    refine ⟨_, _, rfl, same_over s2 nf _, upd_same, ?_⟩
    rw [take_snoc hv]
    have p1 : (ys.take d.toNat ++ [v] ++ ys.drop d.toNat).Perm (v :: ys) := by
      have h1 : (ys.take d.toNat ++ [v] ++ ys.drop d.toNat).Perm (v :: (ys.take d.toNat ++ ys.drop d.toNat)) := by
        rw [List.append_assoc]
        exact List.perm_middle
      rw [List.take_append_drop] at h1
      exact h1
    exact p1.trans ((List.Perm.cons v pm).trans (List.perm_append_singleton v _).symm)
  · rintro σ H2 ⟨x3, ys, rfl, s2, e2, pm⟩
    rw [List.take_length] at pm
    exact ⟨_, rfl, q _ _ _ s2 nf e2 pm⟩
end
end Kx
/-! part KitY -/
namespace My
open PySem PySem.Spec PyProof.Rows L2
/-- a pair of a position and a thing: where it lies, and what it is -/
structure Ent where
  a : Addr
  pa : Addr
  ta : Addr
  p : Nat × Nat
  o : Str
  n : Int
def EntAt (K : PySem.W.Frag) (H : Hp) (e : Ent) : Prop := SqT K H e.a [.ref e.pa, .ref e.ta] ∧ SqT K H e.pa (pV e.p) ∧ SqT K H e.ta [.str e.o, .int e.n]
theorem EntAt.same {K : PySem.W.Frag} {H H' : Hp} {e : Ent} (s : Same H H') (h : EntAt K H e) : EntAt K H' e := ⟨Same.seqT s h.1, Same.seqT s h.2.1, Same.seqT s h.2.2⟩
structure EntOk (e : Ent) : Prop where
  u0 : 0 < e.p.2
  ud : e.p.2 ∣ 2 ^ 52
  ob : e.p.1 < 2 ^ 60
def comm (es : List Ent) : Nat := es.foldl (fun c e => Nat.lcm c e.p.2) 1
theorem comm_snoc {es : List Ent} {j : Nat} {e : Ent} (h : es[j]? = some e) : comm (es.take (j + 1)) = Nat.lcm (comm (es.take j)) e.p.2 := by
  unfold comm
  rw [take_snoc h, List.foldl_append]
  rfl
theorem comm_fold {es : List Ent} (h : ∀ e ∈ es, EntOk e) : ∀ c, c ∣ 2 ^ 52 → es.foldl (fun c e => Nat.lcm c e.p.2) c ∣ 2 ^ 52 := by
  induction es with
  | nil => exact fun c d => d
  | cons e es ih => exact fun c d => ih (fun x hx => h x (List.mem_cons_of_mem _ hx)) _ (Nat.lcm_dvd d (h e List.mem_cons_self).ud)
theorem comm_dvd {es : List Ent} (h : ∀ e ∈ es, EntOk e) : comm es ∣ 2 ^ 52 := comm_fold h 1 (Nat.one_dvd _)
theorem comm_lt {es : List Ent} (h : ∀ e ∈ es, EntOk e) : comm es < 2 ^ 64 := Nat.lt_of_le_of_lt (Nat.le_of_dvd (by decide) (comm_dvd h)) (by decide)
def keyE (c : Nat) (e : Ent) : PyData := .tuple [.int ((e.p.1 * (c / e.p.2) : Nat) : Int), .tuple [.str e.o, .int e.n]]
def ordE (es : List Ent) : List Ent := es.mergeSort (PySem.W.dataLe false (keyE (comm es)))
theorem keyE_alike (c : Nat) (e f : Ent) : PySem.W.alike (keyE c e) (keyE c f) = true := by
  simp [keyE, PySem.W.alike, PySem.W.alikeAll]
theorem keyE_depth (c : Nat) (e : Ent) : (keyE c e).depth ≤ 60 := by
  have : (keyE c e).depth = 2 := by simp [keyE, PyData.depth, PyData.depthAll]
  omega
theorem refs_of {ys : List V} (h : ∀ (i : Nat) (y : V), ys[i]? = some y → ∃ t : Addr, y = .ref t) : ∃ ts : List Addr, ys = ts.map V.ref := by
  induction ys with
  | nil => exact ⟨[], rfl⟩
  | cons y ys ih =>
    obtain ⟨t, rfl⟩ := h 0 y rfl
    obtain ⟨ts, e⟩ := ih fun i z hz => h (i + 1) z hz
    exact ⟨t :: ts, by rw [List.map_cons, ← e]⟩
/-- the scaled pairs beside their entries, sorted -/
def srtZ (c : Nat) (Z : List (Addr × Ent)) : List (Addr × Ent) := Z.mergeSort (PySem.W.dataLe false fun z => keyE c z.2)
theorem srtZ_fst (c : Nat) (Z : List (Addr × Ent)) : (srtD (Z.map fun z => V.ref z.1) (Z.map fun z => keyE c z.2)).map Prod.fst = (srtZ c Z).map fun z => V.ref z.1 := by
  unfold srtD srtZ
  have e : (Z.map fun z => V.ref z.1).zip (Z.map fun z => keyE c z.2) = Z.map fun z => (V.ref z.1, keyE c z.2) := by
    rw [List.zip_map', ]
  rw [e, ← PySem.W.sort_maps (r := PySem.W.dataLe false fun z : Addr × Ent => keyE c z.2) (fun z : Addr × Ent => (V.ref z.1, keyE c z.2)) (fun a _ b _ => rfl), List.map_map]
  rfl
theorem srtZ_snd (Z : List (Addr × Ent)) (es : List Ent) (h : Z.map Prod.snd = es) : (srtZ (comm es) Z).map Prod.snd = ordE es := by
  unfold srtZ ordE
  rw [PySem.W.sort_maps (r := PySem.W.dataLe false fun z : Addr × Ent => keyE (comm es) z.2) (s := PySem.W.dataLe false (keyE (comm es))) Prod.snd (fun a _ b _ => rfl), h]
theorem srtZ_mem {c : Nat} {Z : List (Addr × Ent)} {z : Addr × Ent} (h : z ∈ srtZ c Z) : z ∈ Z := (List.mergeSort_perm Z _).mem_iff.mp h
def spOrd (S : Hp → Addr → List V → Prop) (K : PySem.W.Frag) : Sp := fun vs H Q _ => ∃ (l : Addr) (es : List Ent), vs = [.ref l] ∧ S H l (es.map fun e => V.ref e.a) ∧ es.length ≤ 1000 ∧ (∀ e ∈ es, EntAt K H e ∧ EntOk e) ∧
  ∀ H' c, Same H H' → H c = none → H' c = some (.lst ((ordE es).map fun e => V.ref e.ta)) → Q (.ref c) H'
theorem k_cr_sortedD {X : Cx} (K : PySem.W.Frag) (h : X.K = K) (hu : X.A.units + 64 < cLine) : CallR X (.builtin "sorted") (rSortedD K) := by
  subst h
  exact cr_sortedD hu
end My
/-! part K03h -/
namespace Kx
open PySem PySem.Spec PyProof.Rows L2 My
section
variable {P : Program} {w : World} {K : PySem.W.Frag} {mg : Str → Option Value} {base : Heap} (T : Tx K mg)
theorem ok_ordered : FnOk P w K mg base CX0 1 T.f_ordered T.d_ordered ["pairs"] (spOrd (SqL K) K) := by
  refine T.F_ordered.ok sc_ordered (fun vs H Q E h => ?_) (fun cdv A outer s H vs Q E hr h => ?_)
  · obtain ⟨l, es, rfl, _⟩ := h
    rfl
  obtain ⟨l, es, rfl, hl, hz, hes, q⟩ := h
  refine ⟨_, (pss_cons (ps_set (i := 1) sc_ordered.nd rfl (Or.inr rfl) pe_int)
  (pss_cons (ps_for PassesOwn.never rfl (pi_list (pv 0)) (pg_tup (by rfl) (pgs_cons (pg_tup (by rfl) (pgs_cons (pg_name (i := 2) sc_ordered.nd rfl (Or.inl rfl)) (pgs_cons (pg_name (i := 3) sc_ordered.nd rfl (Or.inl rfl)) pgs_nil))) (pgs_cons (pg_name (i := 2) sc_ordered.nd rfl (Or.inl rfl)) pgs_nil)))
    (pss_one (ps_set (i := 1) sc_ordered.nd rfl (Or.inr rfl) (pe_callBfun cr_lcm (by rfl) T.g_lcm (pa_cons (pv 1) (pa_cons (pv 3) pa_nil))))))
  (pss_cons (ps_setLc (i := 4) (own := [("over", 5), ("under", 3), ("thing", 6)]) (g := gTup K 2 (gCons (gTup K 2 (gCons (gName 5) (gCons (gName 3) gNil))) (gCons (gName 6) gNil))) (by rfl) sc_ordered.nd rfl rfl (sw_true rfl rfl rfl (by decide +kernel)) (pi_list (pv 0)) (blkOk_by (own := [("over", 5), ("under", 3), ("thing", 6)]) (N := N_ordered) (sc := defScope s_ordered) (by decide +kernel)) (fun _ _ _ _ _ => (pg_tup (by rfl) (pgs_cons (pg_tup (by rfl) (pgs_cons (pg_name (i := 5) sc_ordered.nd rfl (Or.inl rfl)) (pgs_cons (pg_name (i := 3) sc_ordered.nd rfl (Or.inl rfl)) pgs_nil))) (pgs_cons (pg_name (i := 6) sc_ordered.nd rfl (Or.inl rfl)) pgs_nil)))) (fun _ _ _ _ _ => pts_nil) (fun _ _ _ _ _ => (pe_tup (pa_cons (pe_op op_mul (pv 5) (pe_op op_fdivB (pv 1) (pv 3))) (pa_cons (pv 6) pa_nil)))))
  (pss_one (ps_ret (pe_lc (own := [("_", 2), ("thing", 6)]) (g := gTup K 2 (gCons (gName 2) (gCons (gName 6) gNil))) (by rfl) sc_ordered.nd (pi_list (pe_callB (k_cr_sortedD K rfl hr.units) (by rfl) T.z_sorted (by decide +kernel) (pa_cons (pv 4) pa_nil))) (blkOk_by (own := [("_", 2), ("thing", 6)]) (N := N_ordered) (sc := defScope s_ordered) (by decide +kernel)) (fun _ _ _ _ _ => (pg_tup (by rfl) (pgs_cons (pg_name (i := 2) sc_ordered.nd rfl (Or.inl rfl)) (pgs_cons (pg_name (i := 6) sc_ordered.nd rfl (Or.inl rfl)) pgs_nil)))) (fun _ _ _ _ _ => pts_nil) (fun _ _ _ _ _ => (pv 6)))))))), ?_⟩
  have hok : ∀ e ∈ es, EntOk e := fun e he => (hes e he).2
  have at_e : ∀ (j : Nat) (v : V), (es.map fun e => V.ref e.a)[j]? = some v → ∃ e, es[j]? = some e ∧ v = .ref e.a ∧ e ∈ es := fun j v h => by
    rw [List.getElem?_map] at h
    obtain ⟨e, he, rfl⟩ := Option.map_eq_some_iff.mp h
    exact ⟨e, he, rfl, List.mem_of_getElem? he⟩
  -- the common under
  refine ⟨_, rfl, l, rfl, ⟨_, hl⟩, ?_⟩
  refine for_list (K := K) (a := l) (xs := es.map fun e => V.ref e.a) (fun j σ H' => ∃ x2 x3 x4 x5 x6, σ = [some (.ref l), some (nV (comm (es.take j))), x2, x3, x4, x5, x6] ∧ H' = H) ⟨_, _, _, _, _, rfl, rfl⟩ (fun j σ H' _ ⟨_, _, _, _, _, _, s'⟩ => by rw [s']; exact hl) ?_ ?_
  · rintro j v σ H2 hv ⟨x2, x3, x4, x5, x6, rfl, rfl⟩
    obtain ⟨e, he, rfl, me⟩ := at_e j v hv
    obtain ⟨⟨h1, h2, h3⟩, ke⟩ := hes e me
    refine ⟨e.a, _, rfl, h1, rfl, _, _, rfl, e.pa, _, rfl, h2, rfl, _, _, rfl, _, _, rfl, rfl, _, _, rfl, rfl, ?_⟩
    have cb : comm (es.take j) < 2 ^ 64 := comm_lt fun x hx => hok x (List.mem_of_mem_take hx)
    have ub : e.p.2 < 2 ^ 64 := Nat.lt_of_le_of_lt (Nat.le_of_dvd (by decide) ke.ud) (by decide)
    refine ⟨_, rfl, _, rfl, _, _, rfl, (by rw [Int.natAbs_natCast]; exact cb), (by rw [Int.natAbs_natCast]; exact ub), ?_⟩
    rw [Int.natAbs_natCast, Int.natAbs_natCast]
    refine ⟨some (.ref e.ta), some (nV e.p.2), x4, x5, x6, ?_, rfl⟩
    rw [comm_snoc he]
    rfl
  rintro σ H2 ⟨x2, x3, x4, x5, x6, rfl, rfl⟩
  rw [List.length_map, List.take_length]
  have cb := comm_lt hok
  generalize hc : comm es = c at cb
  -- scaled
  refine ⟨_, rfl, l, rfl, ⟨_, hl⟩, fun D nD => ?_⟩
  refine lc_rel (walk_list (K := K) (a := l) (xs := es.map fun e => V.ref e.a)) (fun i y H' => ∃ (e : Ent) (t : Addr), es[i]? = some e ∧ y = .ref t ∧ t ≠ D ∧ H' t = some (.tup [nV (e.p.1 * (c / e.p.2)), .ref e.ta])) (by rw [List.length_map]; unfold sizeLine; omega) nD (fun H' s' => Same.seq s' hl) (fun i y H H' k ⟨e, t, h1, h2, h3, h4⟩ => ⟨e, t, h1, h2, h3, k _ _ h3 h4⟩) ?_ ?_
  · rintro i v H3 H4 R Rn hi s3 nDn ⟨rfl, hv⟩ hy
    obtain ⟨e, he, rfl, me⟩ := at_e i v hv
    obtain ⟨hh, ke⟩ := hes e me
    obtain ⟨h1, h2, h3⟩ := hh.same s3
    refine ⟨e.a, _, rfl, h1, rfl, _, _, rfl, e.pa, _, rfl, h2, rfl, _, _, rfl, _, _, rfl, rfl, _, _, rfl, rfl, ?_⟩
    refine ⟨rfl, ?_⟩
    have u0 := ke.u0
    have ob := ke.ob
    have ub : e.p.2 < 2 ^ 64 := Nat.lt_of_le_of_lt (Nat.le_of_dvd (by decide) ke.ud) (by decide)
    refine ⟨_, rfl, _, rfl, _, rfl, _, _, rfl, rfl, ⟨by omega, log_nat ub⟩, _, _, rfl, rfl, .inl ⟨by omega, by omega⟩, _, rfl, (by show 2 ≤ sizeLine; decide), fun t nt => ?_⟩
    refine hy _ _ (same_new nt _) ⟨e, t, he, rfl, fun z => by rw [z] at nt; exact nDn nt, ?_⟩
    rw [upd_same]
    show some (HO.tup [V.int ((e.p.1 : Int) * ((c : Int) / (e.p.2 : Int))), V.ref e.ta]) = some (HO.tup [V.int ((e.p.1 * (c / e.p.2) : Nat) : Int), V.ref e.ta])
    rw [Int.natCast_mul, Int.natCast_ediv]
  rintro H3 ys s3 ly oks e3
  rw [List.length_map] at ly
  obtain ⟨ts, rfl⟩ := refs_of fun i y h => let ⟨_, t, _, h2, _⟩ := oks i y h; ⟨t, h2⟩
  rw [List.length_map] at ly
  -- beside their entries
  have zf : (ts.zip es).map Prod.fst = ts := List.map_fst_zip (by omega)
  have zs : (ts.zip es).map Prod.snd = es := List.map_snd_zip (by omega)
  have zat : ∀ z ∈ ts.zip es, z.2 ∈ es ∧ H3 z.1 = some (.tup [nV (z.2.p.1 * (c / z.2.p.2)), .ref z.2.ta]) := fun z hz => by
    obtain ⟨i, hi⟩ := List.getElem?_of_mem hz
    obtain ⟨h1, h2⟩ := List.getElem?_zip_eq_some.mp hi
    obtain ⟨e, t, g1, g2, _, g4⟩ := oks i (.ref z.1) (by rw [List.getElem?_map, h1] <;> rfl)
    rw [h2] at g1
    cases g1
    cases g2
    exact ⟨List.mem_of_getElem? h2, g4⟩
  generalize ts.zip es = Z at zf zs zat
  subst zf
  have dall : ∀ Z' : List (Addr × Ent), (∀ z ∈ Z', z ∈ Z) → DpAll K H3 (Z'.map fun z => V.ref z.1) (Z'.map fun z => keyE c z.2) := fun Z' => by
    induction Z' with
    | nil => exact fun _ => .nil
    | cons z Z' ih =>
      intro hm
      obtain ⟨m1, m2⟩ := zat z (hm z List.mem_cons_self)
      obtain ⟨_, _, k3⟩ := ((hes z.2 m1).1).same s3
      exact .cons (.tup (.inl (.inl m2)) (.cons (.int _) (.cons (.tup k3 (.cons (.str _) (.cons (.int _) .nil))) .nil))) (ih fun x hx => hm x (List.mem_cons_of_mem _ hx))
  have e3' : H3 D = some (.lst (Z.map fun z => V.ref z.1)) := by
    rw [e3, List.map_map]
    rfl
  refine ⟨_, rfl, D, _, Z.map fun z => keyE c z.2, rfl, .inl (.inl e3'), dall Z (fun _ h => h), ?_, ?_, ?_, fun p np => ?_⟩
  · intro d hd d' hd'
    obtain ⟨z, _, rfl⟩ := List.mem_map.mp hd
    obtain ⟨z', _, rfl⟩ := List.mem_map.mp hd'
    exact keyE_alike c z.2 z'.2
  · refine .inl fun d hd => ?_
    obtain ⟨z, _, rfl⟩ := List.mem_map.mp hd
    exact ⟨_, _, rfl⟩
  · intro d hd
    obtain ⟨z, _, rfl⟩ := List.mem_map.mp hd
    exact keyE_depth c z.2
  rw [srtZ_fst]
  generalize hX : upd _ p _ = H4
  obtain ⟨s4, e4⟩ := new_at hX np
  clear hX
  have zl : (srtZ c Z).length = es.length := by
    unfold srtZ
    rw [List.length_mergeSort, ← zs, List.length_map]
  refine ⟨p, rfl, ⟨_, .inl (.inl e4)⟩, fun E nE => ?_⟩
  refine lc_gen (walk_list (K := K) (a := p) (xs := (srtZ c Z).map fun z => V.ref z.1)) (fun i => ((srtZ c Z)[i]?).bind fun z => some (.ref z.2.ta)) (by rw [List.length_map, zl]; unfold sizeLine; omega) nE (fun H' s' => .inl (.inl (s' _ _ e4))) ?_ ?_
  · rintro i v H5 H6 R Rn hi s5 ⟨rfl, hv⟩ hy hn
    rw [List.getElem?_map] at hv
    obtain ⟨z, hz2, rfl⟩ := Option.map_eq_some_iff.mp hv
    obtain ⟨_, m2⟩ := zat z (srtZ_mem (List.mem_of_getElem? hz2))
    refine ⟨z.1, _, rfl, .inl (.inl (s5 _ _ (s4 _ _ m2))), rfl, _, _, rfl, _, _, rfl, rfl, ?_⟩
    exact ⟨rfl, _, rfl, hy _ (by rw [hz2] <;> rfl) _ (Same.refl _)⟩
  rintro H5 s5 e5
  rw [List.length_map, range_all, filterMap_some] at e5
  refine q _ _ (s3.trans (s4.trans s5)) ((s3.trans s4).free nE) ?_
  rw [e5]
  have e6 : (srtZ c Z).map (fun z => V.ref z.2.ta) = (ordE es).map fun e => V.ref e.ta := by
    rw [← srtZ_snd Z es zs, hc, List.map_map]
    rfl
  rw [e6]
theorem ok_orderedT : FnOk P w K mg base CX0 1 T.f_ordered T.d_ordered ["pairs"] (spOrd (SqT K) K) := by
  refine T.F_ordered.ok sc_ordered (fun vs H Q E h => ?_) (fun cdv A outer s H vs Q E hr h => ?_)
  · obtain ⟨l, es, rfl, _⟩ := h
    rfl
  obtain ⟨l, es, rfl, hl, hz, hes, q⟩ := h
  refine ⟨_, (pss_cons (ps_set (i := 1) sc_ordered.nd rfl (Or.inr rfl) pe_int)
  (pss_cons (ps_for PassesOwn.never rfl (pi_tup (pv 0)) (pg_tup (by rfl) (pgs_cons (pg_tup (by rfl) (pgs_cons (pg_name (i := 2) sc_ordered.nd rfl (Or.inl rfl)) (pgs_cons (pg_name (i := 3) sc_ordered.nd rfl (Or.inl rfl)) pgs_nil))) (pgs_cons (pg_name (i := 2) sc_ordered.nd rfl (Or.inl rfl)) pgs_nil)))
    (pss_one (ps_set (i := 1) sc_ordered.nd rfl (Or.inr rfl) (pe_callBfun cr_lcm (by rfl) T.g_lcm (pa_cons (pv 1) (pa_cons (pv 3) pa_nil))))))
  (pss_cons (ps_setLc (i := 4) (own := [("over", 5), ("under", 3), ("thing", 6)]) (g := gTup K 2 (gCons (gTup K 2 (gCons (gName 5) (gCons (gName 3) gNil))) (gCons (gName 6) gNil))) (by rfl) sc_ordered.nd rfl rfl (sw_true rfl rfl rfl (by decide +kernel)) (pi_tup (pv 0)) (blkOk_by (own := [("over", 5), ("under", 3), ("thing", 6)]) (N := N_ordered) (sc := defScope s_ordered) (by decide +kernel)) (fun _ _ _ _ _ => (pg_tup (by rfl) (pgs_cons (pg_tup (by rfl) (pgs_cons (pg_name (i := 5) sc_ordered.nd rfl (Or.inl rfl)) (pgs_cons (pg_name (i := 3) sc_ordered.nd rfl (Or.inl rfl)) pgs_nil))) (pgs_cons (pg_name (i := 6) sc_ordered.nd rfl (Or.inl rfl)) pgs_nil)))) (fun _ _ _ _ _ => pts_nil) (fun _ _ _ _ _ => (pe_tup (pa_cons (pe_op op_mul (pv 5) (pe_op op_fdivB (pv 1) (pv 3))) (pa_cons (pv 6) pa_nil)))))
  (pss_one (ps_ret (pe_lc (own := [("_", 2), ("thing", 6)]) (g := gTup K 2 (gCons (gName 2) (gCons (gName 6) gNil))) (by rfl) sc_ordered.nd (pi_list (pe_callB (k_cr_sortedD K rfl hr.units) (by rfl) T.z_sorted (by decide +kernel) (pa_cons (pv 4) pa_nil))) (blkOk_by (own := [("_", 2), ("thing", 6)]) (N := N_ordered) (sc := defScope s_ordered) (by decide +kernel)) (fun _ _ _ _ _ => (pg_tup (by rfl) (pgs_cons (pg_name (i := 2) sc_ordered.nd rfl (Or.inl rfl)) (pgs_cons (pg_name (i := 6) sc_ordered.nd rfl (Or.inl rfl)) pgs_nil)))) (fun _ _ _ _ _ => pts_nil) (fun _ _ _ _ _ => (pv 6)))))))), ?_⟩
  have hok : ∀ e ∈ es, EntOk e := fun e he => (hes e he).2
  have at_e : ∀ (j : Nat) (v : V), (es.map fun e => V.ref e.a)[j]? = some v → ∃ e, es[j]? = some e ∧ v = .ref e.a ∧ e ∈ es := fun j v h => by
    rw [List.getElem?_map] at h
    obtain ⟨e, he, rfl⟩ := Option.map_eq_some_iff.mp h
    exact ⟨e, he, rfl, List.mem_of_getElem? he⟩
  -- the common under
  refine ⟨_, rfl, l, rfl, ⟨_, hl⟩, ?_⟩
  refine for_tup (K := K) (a := l) (xs := es.map fun e => V.ref e.a) (fun j σ H' => ∃ x2 x3 x4 x5 x6, σ = [some (.ref l), some (nV (comm (es.take j))), x2, x3, x4, x5, x6] ∧ H' = H) ⟨_, _, _, _, _, rfl, rfl⟩ (fun j σ H' _ ⟨_, _, _, _, _, _, s'⟩ => by rw [s']; exact hl) ?_ ?_
  · rintro j v σ H2 hv ⟨x2, x3, x4, x5, x6, rfl, rfl⟩
    obtain ⟨e, he, rfl, me⟩ := at_e j v hv
    obtain ⟨⟨h1, h2, h3⟩, ke⟩ := hes e me
    refine ⟨e.a, _, rfl, h1, rfl, _, _, rfl, e.pa, _, rfl, h2, rfl, _, _, rfl, _, _, rfl, rfl, _, _, rfl, rfl, ?_⟩
    have cb : comm (es.take j) < 2 ^ 64 := comm_lt fun x hx => hok x (List.mem_of_mem_take hx)
    have ub : e.p.2 < 2 ^ 64 := Nat.lt_of_le_of_lt (Nat.le_of_dvd (by decide) ke.ud) (by decide)
    refine ⟨_, rfl, _, rfl, _, _, rfl, (by rw [Int.natAbs_natCast]; exact cb), (by rw [Int.natAbs_natCast]; exact ub), ?_⟩
    rw [Int.natAbs_natCast, Int.natAbs_natCast]
    refine ⟨some (.ref e.ta), some (nV e.p.2), x4, x5, x6, ?_, rfl⟩
    rw [comm_snoc he]
    rfl
  rintro σ H2 ⟨x2, x3, x4, x5, x6, rfl, rfl⟩
  rw [List.length_map, List.take_length]
  have cb := comm_lt hok
  generalize hc : comm es = c at cb
  -- scaled
  refine ⟨_, rfl, l, rfl, ⟨_, hl⟩, fun D nD => ?_⟩
  refine lc_rel (walk_tup (K := K) (a := l) (xs := es.map fun e => V.ref e.a)) (fun i y H' => ∃ (e : Ent) (t : Addr), es[i]? = some e ∧ y = .ref t ∧ t ≠ D ∧ H' t = some (.tup [nV (e.p.1 * (c / e.p.2)), .ref e.ta])) (by rw [List.length_map]; unfold sizeLine; omega) nD (fun H' s' => Same.seqT s' hl) (fun i y H H' k ⟨e, t, h1, h2, h3, h4⟩ => ⟨e, t, h1, h2, h3, k _ _ h3 h4⟩) ?_ ?_
  · rintro i v H3 H4 R Rn hi s3 nDn ⟨rfl, hv⟩ hy
    obtain ⟨e, he, rfl, me⟩ := at_e i v hv
    obtain ⟨hh, ke⟩ := hes e me
    obtain ⟨h1, h2, h3⟩ := hh.same s3
    refine ⟨e.a, _, rfl, h1, rfl, _, _, rfl, e.pa, _, rfl, h2, rfl, _, _, rfl, _, _, rfl, rfl, _, _, rfl, rfl, ?_⟩
    refine ⟨rfl, ?_⟩
    have u0 := ke.u0
    have ob := ke.ob
    have ub : e.p.2 < 2 ^ 64 := Nat.lt_of_le_of_lt (Nat.le_of_dvd (by decide) ke.ud) (by decide)
    refine ⟨_, rfl, _, rfl, _, rfl, _, _, rfl, rfl, ⟨by omega, log_nat ub⟩, _, _, rfl, rfl, .inl ⟨by omega, by omega⟩, _, rfl, (by show 2 ≤ sizeLine; decide), fun t nt => ?_⟩
    refine hy _ _ (same_new nt _) ⟨e, t, he, rfl, fun z => by rw [z] at nt; exact nDn nt, ?_⟩
    rw [upd_same]
    show some (HO.tup [V.int ((e.p.1 : Int) * ((c : Int) / (e.p.2 : Int))), V.ref e.ta]) = some (HO.tup [V.int ((e.p.1 * (c / e.p.2) : Nat) : Int), V.ref e.ta])
    rw [Int.natCast_mul, Int.natCast_ediv]
  rintro H3 ys s3 ly oks e3
  rw [List.length_map] at ly
  obtain ⟨ts, rfl⟩ := refs_of fun i y h => let ⟨_, t, _, h2, _⟩ := oks i y h; ⟨t, h2⟩
  rw [List.length_map] at ly
  -- beside their entries
  have zf : (ts.zip es).map Prod.fst = ts := List.map_fst_zip (by omega)
  have zs : (ts.zip es).map Prod.snd = es := List.map_snd_zip (by omega)
  have zat : ∀ z ∈ ts.zip es, z.2 ∈ es ∧ H3 z.1 = some (.tup [nV (z.2.p.1 * (c / z.2.p.2)), .ref z.2.ta]) := fun z hz => by
    obtain ⟨i, hi⟩ := List.getElem?_of_mem hz
    obtain ⟨h1, h2⟩ := List.getElem?_zip_eq_some.mp hi
    obtain ⟨e, t, g1, g2, _, g4⟩ := oks i (.ref z.1) (by rw [List.getElem?_map, h1] <;> rfl)
    rw [h2] at g1
    cases g1
    cases g2
    exact ⟨List.mem_of_getElem? h2, g4⟩
  generalize ts.zip es = Z at zf zs zat
  subst zf
  have dall : ∀ Z' : List (Addr × Ent), (∀ z ∈ Z', z ∈ Z) → DpAll K H3 (Z'.map fun z => V.ref z.1) (Z'.map fun z => keyE c z.2) := fun Z' => by
    induction Z' with
    | nil => exact fun _ => .nil
    | cons z Z' ih =>
      intro hm
      obtain ⟨m1, m2⟩ := zat z (hm z List.mem_cons_self)
      obtain ⟨_, _, k3⟩ := ((hes z.2 m1).1).same s3
      exact .cons (.tup (.inl (.inl m2)) (.cons (.int _) (.cons (.tup k3 (.cons (.str _) (.cons (.int _) .nil))) .nil))) (ih fun x hx => hm x (List.mem_cons_of_mem _ hx))
  have e3' : H3 D = some (.lst (Z.map fun z => V.ref z.1)) := by
    rw [e3, List.map_map]
    rfl
  refine ⟨_, rfl, D, _, Z.map fun z => keyE c z.2, rfl, .inl (.inl e3'), dall Z (fun _ h => h), ?_, ?_, ?_, fun p np => ?_⟩
  · intro d hd d' hd'
    obtain ⟨z, _, rfl⟩ := List.mem_map.mp hd
    obtain ⟨z', _, rfl⟩ := List.mem_map.mp hd'
    exact keyE_alike c z.2 z'.2
  · refine .inl fun d hd => ?_
    obtain ⟨z, _, rfl⟩ := List.mem_map.mp hd
    exact ⟨_, _, rfl⟩
  · intro d hd
    obtain ⟨z, _, rfl⟩ := List.mem_map.mp hd
    exact keyE_depth c z.2
  rw [srtZ_fst]
  generalize hX : upd _ p _ = H4
  obtain ⟨s4, e4⟩ := new_at hX np
  clear hX
  have zl : (srtZ c Z).length = es.length := by
    unfold srtZ
    rw [List.length_mergeSort, ← zs, List.length_map]
  refine ⟨p, rfl, ⟨_, .inl (.inl e4)⟩, fun E nE => ?_⟩
  refine lc_gen (walk_list (K := K) (a := p) (xs := (srtZ c Z).map fun z => V.ref z.1)) (fun i => ((srtZ c Z)[i]?).bind fun z => some (.ref z.2.ta)) (by rw [List.length_map, zl]; unfold sizeLine; omega) nE (fun H' s' => .inl (.inl (s' _ _ e4))) ?_ ?_
  · rintro i v H5 H6 R Rn hi s5 ⟨rfl, hv⟩ hy hn
    rw [List.getElem?_map] at hv
    obtain ⟨z, hz2, rfl⟩ := Option.map_eq_some_iff.mp hv
    obtain ⟨_, m2⟩ := zat z (srtZ_mem (List.mem_of_getElem? hz2))
    refine ⟨z.1, _, rfl, .inl (.inl (s5 _ _ (s4 _ _ m2))), rfl, _, _, rfl, _, _, rfl, rfl, ?_⟩
    exact ⟨rfl, _, rfl, hy _ (by rw [hz2] <;> rfl) _ (Same.refl _)⟩
  rintro H5 s5 e5
  rw [List.length_map, range_all, filterMap_some] at e5
  refine q _ _ (s3.trans (s4.trans s5)) ((s3.trans s4).free nE) ?_
  rw [e5]
  have e6 : (srtZ c Z).map (fun z => V.ref z.2.ta) = (ordE es).map fun e => V.ref e.ta := by
    rw [← srtZ_snd Z es zs, hc, List.map_map]
    rfl
  rw [e6]
end
end Kx
/-! part KitZ -/
namespace My
open PySem PySem.Spec PyProof.Rows L2
theorem scaled_lt {c : Nat} {p q : Nat × Nat} (hp : p.2 ∣ c) (hq : q.2 ∣ c) (c0 : 0 < c) : p.1 * (c / p.2) < q.1 * (c / q.2) ↔ p.1 * q.2 < q.1 * p.2 := by
  obtain ⟨a, ha⟩ := hp
  obtain ⟨b, hb⟩ := hq
  have p0 : 0 < p.2 := Nat.pos_of_ne_zero fun z => by rw [z, Nat.zero_mul] at ha; omega
  have q0 : 0 < q.2 := Nat.pos_of_ne_zero fun z => by rw [z, Nat.zero_mul] at hb; omega
  have e1 : c / p.2 = a := by rw [ha, Nat.mul_div_cancel_left _ p0]
  have e2 : c / q.2 = b := by rw [hb, Nat.mul_div_cancel_left _ q0]
  rw [e1, e2]
  have m : 0 < p.2 * q.2 := Nat.mul_pos p0 q0
  have l : p.1 * a * (p.2 * q.2) = p.1 * q.2 * c := by
    rw [ha]
    ac_rfl
  have r : q.1 * b * (p.2 * q.2) = q.1 * p.2 * c := by
    rw [hb]
    ac_rfl
  rw [← Nat.mul_lt_mul_right m, l, r, Nat.mul_lt_mul_right c0]
theorem pos_eq {p q : Nat × Nat} (hp : Nat.Coprime p.1 p.2) (hq : Nat.Coprime q.1 q.2) (p0 : 0 < p.2) (h : p.1 * q.2 = q.1 * p.2) : p = q := by
  have d1 : p.2 ∣ q.2 := Nat.Coprime.dvd_of_dvd_mul_left hp.symm (by rw [h]; exact Nat.dvd_mul_left _ _)
  have d2 : q.2 ∣ p.2 := Nat.Coprime.dvd_of_dvd_mul_left hq.symm (by rw [← h]; exact Nat.dvd_mul_left _ _)
  have e2 : p.2 = q.2 := Nat.dvd_antisymm d1 d2
  rw [← e2] at h
  have e1 : p.1 = q.1 := Nat.eq_of_mul_eq_mul_right p0 h
  exact Prod.ext e1 e2
/-- the thing of an entry, as data -/
def thD (e : Ent) : PyData := .tuple [.str e.o, .int e.n]
theorem thD_alike (e f : Ent) : PySem.W.alike (thD e) (thD f) = true := by
  simp [thD, PySem.W.alike, PySem.W.alikeAll]
theorem key_lt (c : Nat) (e f : Ent) : PySem.W.dataLt (keyE c e) (keyE c f) = if e.p.1 * (c / e.p.2) = f.p.1 * (c / f.p.2) then (if PyData.eqv (thD e) (thD f) = true then false else PySem.W.dataLt (thD e) (thD f)) else decide (e.p.1 * (c / e.p.2) < f.p.1 * (c / f.p.2)) := by
  have h := PySem.W.dataLt_pair (x := .int ((e.p.1 * (c / e.p.2) : Nat) : Int)) (x' := .int ((f.p.1 * (c / f.p.2) : Nat) : Int)) (y := thD e) (y' := thD f) (by simp [PySem.W.alike]) (thD_alike e f)
  show PySem.W.dataLt (.tuple [.int ((e.p.1 * (c / e.p.2) : Nat) : Int), thD e]) (.tuple [.int ((f.p.1 * (c / f.p.2) : Nat) : Int), thD f]) = _
  rw [h]
  generalize e.p.1 * (c / e.p.2) = m
  generalize f.p.1 * (c / f.p.2) = n
  have q : PyData.eqv (.int ((m : Nat) : Int)) (.int ((n : Nat) : Int)) = decide (m = n) := by
    by_cases z : m = n
    · rw [z, decide_eq_true rfl]
      simp [PyData.eqv]
    · rw [decide_eq_false z]
      simp [PyData.eqv]
      omega
  rw [q, PySem.W.dataLt_int]
  by_cases z : m = n
  · rw [decide_eq_true z, if_pos rfl, if_pos z]
  · rw [decide_eq_false z, if_neg Bool.false_ne_true, if_neg z]
    simp only [Int.ofNat_lt]
end My
/-! part KitZ2 -/
namespace My
open PySem PySem.Spec PyProof.Rows L2
/-- the law's own order -/
def ltE (e f : Ent) : Bool := lessP e.p f.p || (decide (e.p = f.p) && PySem.W.dataLt (thD e) (thD f))
theorem thD_eqv {e f : Ent} (h : PyData.eqv (thD e) (thD f) = true) : thD e = thD f := by
  simp [thD, PyData.eqv, PyData.eqvAll] at h ⊢
  exact h
theorem key_ltE {c : Nat} {e f : Ent} (c0 : 0 < c) (he : e.p.2 ∣ c) (hf : f.p.2 ∣ c) (ce : Nat.Coprime e.p.1 e.p.2) (cf : Nat.Coprime f.p.1 f.p.2) : PySem.W.dataLt (keyE c e) (keyE c f) = ltE e f := by
  rw [key_lt]
  have l1 := scaled_lt he hf c0
  have l2 := scaled_lt hf he c0
  have p0 : 0 < e.p.2 := Nat.pos_of_dvd_of_pos he c0
  have tt : (if PyData.eqv (thD e) (thD f) = true then false else PySem.W.dataLt (thD e) (thD f)) = PySem.W.dataLt (thD e) (thD f) := by
    by_cases z : PyData.eqv (thD e) (thD f) = true
    · rw [if_pos z, thD_eqv z, PySem.W.dataLt_self]
    · rw [if_neg z]
  rw [tt]
  unfold ltE lessP
  by_cases z : e.p.1 * (c / e.p.2) = f.p.1 * (c / f.p.2)
  · have eq : e.p.1 * f.p.2 = f.p.1 * e.p.2 := by omega
    have pe : e.p = f.p := pos_eq ce cf p0 eq
    rw [if_pos z, decide_eq_false (by omega), Bool.false_or, decide_eq_true pe, Bool.true_and]
  · have pe : ¬ e.p = f.p := fun h => z (by rw [h])
    rw [if_neg z, decide_eq_false pe, Bool.false_and, Bool.or_false]
    simp only [l1]
/-- the law's search: the least one, then the least of the rest -/
def leastE (x : Ent) (l : List Ent) : Ent := l.foldl (fun m e => if ltE e m = true then e else m) x
theorem leastE_mem : ∀ (l : List Ent) (x : Ent), leastE x l = x ∨ leastE x l ∈ l
  | [], x => .inl rfl
  | e :: l, x => by
    show leastE (if ltE e x = true then e else x) l = x ∨ leastE (if ltE e x = true then e else x) l ∈ e :: l
    by_cases h : ltE e x = true
    · rw [if_pos h]
      rcases leastE_mem l e with q | q
      · exact .inr (by rw [q]; exact List.mem_cons_self)
      · exact .inr (List.mem_cons_of_mem _ q)
    · rw [if_neg h]
      rcases leastE_mem l x with q | q
      · exact .inl q
      · exact .inr (List.mem_cons_of_mem _ q)
/-- no one is below the least, where not-below is transitive -/
theorem leastE_min {S : Ent → Prop} (tr : ∀ a b c, S a → S b → S c → ltE b a = false → ltE c b = false → ltE c a = false) (ir : ∀ a, S a → ltE a a = false) (as : ∀ a b, S a → S b → ltE a b = true → ltE b a = false) :
    ∀ (l : List Ent) (x : Ent), S x → (∀ e ∈ l, S e) → ltE x (leastE x l) = false ∧ ∀ e ∈ l, ltE e (leastE x l) = false
  | [], x, sx, _ => ⟨ir x sx, fun e h => absurd h (by simp)⟩
  | e :: l, x, sx, sl => by
    have se := sl e List.mem_cons_self
    have sr : ∀ y ∈ l, S y := fun y hy => sl y (List.mem_cons_of_mem _ hy)
    show ltE x (leastE (if ltE e x = true then e else x) l) = false ∧ ∀ y ∈ e :: l, ltE y (leastE (if ltE e x = true then e else x) l) = false
    have sm : ∀ z, S z → S (leastE z l) := fun z sz => by
      rcases leastE_mem l z with q | q
      · rw [q]; exact sz
      · exact sr _ q
    by_cases h : ltE e x = true
    · rw [if_pos h]
      obtain ⟨h1, h2⟩ := leastE_min tr ir as l e se sr
      refine ⟨tr _ e x (sm e se) se sx h1 (as e x se sx h), fun y hy => ?_⟩
      rcases List.mem_cons.mp hy with rfl | hy
      · exact h1
      · exact h2 y hy
    · rw [if_neg h]
      have h' : ltE e x = false := Bool.eq_false_iff.mpr h
      obtain ⟨h1, h2⟩ := leastE_min tr ir as l x sx sr
      refine ⟨h1, fun y hy => ?_⟩
      rcases List.mem_cons.mp hy with rfl | hy
      · exact tr _ x y (sm x sx) sx se h1 h'
      · exact h2 y hy
end My
/-! part KitZ3 -/
namespace My
open PySem PySem.Spec PyProof.Rows L2
theorem th_lt (e f : Ent) : PySem.W.dataLt (thD e) (thD f) = if e.o = f.o then decide (e.n < f.n) else decide (e.o.cps.toList < f.o.cps.toList) := by
  have h := PySem.W.dataLt_pair (x := .str e.o) (x' := .str f.o) (y := .int e.n) (y' := .int f.n) (by simp [PySem.W.alike]) (by simp [PySem.W.alike])
  show PySem.W.dataLt (.tuple [.str e.o, .int e.n]) (.tuple [.str f.o, .int f.n]) = _
  rw [h, PySem.W.dataLt_int, PySem.W.dataLt_str]
  have q : PyData.eqv (.str e.o) (.str f.o) = decide (e.o = f.o) := by
    by_cases z : e.o = f.o
    · rw [z, decide_eq_true rfl]
      simp [PyData.eqv]
    · rw [decide_eq_false z]
      simp [PyData.eqv]
      exact z
  have r : PyData.eqv (.int e.n) (.int f.n) = decide (e.n = f.n) := by
    by_cases z : e.n = f.n
    · rw [z, decide_eq_true rfl]
      simp [PyData.eqv]
    · rw [decide_eq_false z]
      simp [PyData.eqv]
      exact z
  rw [q, r]
  by_cases z : e.o = f.o
  · rw [decide_eq_true z, if_pos rfl, if_pos z]
    by_cases y : e.n = f.n
    · rw [decide_eq_true y, if_pos rfl, decide_eq_false (by omega)]
    · rw [decide_eq_false y, if_neg Bool.false_ne_true]
  · rw [decide_eq_false z, if_neg Bool.false_ne_true, if_neg z]
theorem th_anti {e f : Ent} (h1 : PySem.W.dataLt (thD e) (thD f) = false) (h2 : PySem.W.dataLt (thD f) (thD e) = false) : e.n = f.n := by
  rw [th_lt] at h1 h2
  by_cases z : e.o = f.o
  · rw [if_pos z] at h1
    rw [if_pos z.symm] at h2
    have := of_decide_eq_false h1
    have := of_decide_eq_false h2
    omega
  · rw [if_neg z] at h1
    rw [if_neg (fun w => z w.symm)] at h2
    exact absurd (PySem.W.str_of_cps (List.le_antisymm (of_decide_eq_false h2) (of_decide_eq_false h1))) z
theorem lt_anti {e f : Ent} (ce : Nat.Coprime e.p.1 e.p.2) (cf : Nat.Coprime f.p.1 f.p.2) (p0 : 0 < e.p.2) (h1 : ltE e f = false) (h2 : ltE f e = false) : e.n = f.n := by
  unfold ltE lessP at h1 h2
  rw [Bool.or_eq_false_iff] at h1 h2
  have a := of_decide_eq_false h1.1
  have b := of_decide_eq_false h2.1
  have eq : e.p = f.p := pos_eq ce cf p0 (by omega)
  rw [decide_eq_true eq, Bool.true_and] at h1
  rw [decide_eq_true eq.symm, Bool.true_and] at h2
  exact th_anti h1.2 h2.2
/-- entries in lowest terms, each with a number of its own -/
structure EsOk (es : List Ent) : Prop where
  ok : ∀ e ∈ es, EntOk e
  co : ∀ e ∈ es, Nat.Coprime e.p.1 e.p.2
  di : ∀ e ∈ es, ∀ f ∈ es, e.n = f.n → e = f
theorem comm_pos {es : List Ent} (h : ∀ e ∈ es, EntOk e) : 0 < comm es := Nat.pos_of_dvd_of_pos (comm_dvd h) (by decide)
theorem dvd_fold : ∀ (es : List Ent) (c : Nat), c ∣ es.foldl (fun c e => Nat.lcm c e.p.2) c ∧ ∀ e ∈ es, e.p.2 ∣ es.foldl (fun c e => Nat.lcm c e.p.2) c
  | [], c => ⟨Nat.dvd_refl _, fun e h => absurd h (by simp)⟩
  | x :: es, c => by
    obtain ⟨h1, h2⟩ := dvd_fold es (Nat.lcm c x.p.2)
    refine ⟨Nat.dvd_trans (Nat.dvd_lcm_left _ _) h1, fun e he => ?_⟩
    rcases List.mem_cons.mp he with rfl | he
    · exact Nat.dvd_trans (Nat.dvd_lcm_right _ _) h1
    · exact h2 e he
theorem EsOk.key {es : List Ent} (h : EsOk es) {e f : Ent} (he : e ∈ es) (hf : f ∈ es) : PySem.W.dataLt (keyE (comm es) e) (keyE (comm es) f) = ltE e f :=
  key_ltE (comm_pos h.ok) ((dvd_fold es 1).2 e he) ((dvd_fold es 1).2 f hf) (h.co e he) (h.co f hf)
theorem le_not {c : Nat} {e f : Ent} : PySem.W.dataLe false (keyE c) e f = !PySem.W.dataLt (keyE c f) (keyE c e) := rfl
theorem le_total (c : Nat) : PySem.W.TotalLe (PySem.W.dataLe false (keyE c)) := PySem.W.sortLe_total _ _ _
theorem EsOk.le {es : List Ent} (h : EsOk es) {e f : Ent} (he : e ∈ es) (hf : f ∈ es) : (PySem.W.dataLe false (keyE (comm es)) e f = true) ↔ ltE f e = false := by
  rw [le_not, h.key hf he, Bool.not_eq_true']
/-- the law's least of what is left is the next one in the order -/
theorem ord_next {es : List Ent} (h : EsOk es) {R : List Ent} {k : Nat} (hR : R.Perm ((ordE es).drop k)) {x : Ent} (hx : R[0]? = some x) : (ordE es)[k]? = some (leastE x R) ∧ leastE x R ∈ R := by
  have inO : ∀ e, e ∈ ordE es ↔ e ∈ es := fun e => (List.mergeSort_perm es _).mem_iff
  have inR : ∀ e ∈ R, e ∈ es := fun e he => (inO e).mp (List.mem_of_mem_drop (hR.mem_iff.mp he))
  have xR : x ∈ R := List.mem_of_getElem? hx
  have mR : leastE x R ∈ R := by
    rcases leastE_mem R x with q | q
    · rw [q]; exact xR
    · exact q
  have tr : ∀ a b c, a ∈ es → b ∈ es → c ∈ es → ltE b a = false → ltE c b = false → ltE c a = false := fun a b c ha hb hc h1 h2 => (h.le ha hc).mp ((le_total _).trans a b c ((h.le ha hb).mpr h1) ((h.le hb hc).mpr h2))
  have ir : ∀ a, a ∈ es → ltE a a = false := fun a ha => (h.le ha ha).mp ((le_total _).refl a)
  have as : ∀ a b, a ∈ es → b ∈ es → ltE a b = true → ltE b a = false := fun a b ha hb hab => by
    rcases (le_total (comm es)).total a b with q | q
    · exact (h.le ha hb).mp q
    · have := (h.le hb ha).mp q
      rw [hab] at this
      cases this
  obtain ⟨_, hmin⟩ := leastE_min (S := fun e => e ∈ es) tr ir as R x (inR x xR) inR
  have dm : leastE x R ∈ (ordE es).drop k := hR.mem_iff.mp mR
  have kl : k < (ordE es).length := by
    have := List.length_pos_of_mem dm
    rw [List.length_drop] at this
    omega
  have hd : (ordE es).drop k = (ordE es)[k] :: (ordE es).drop (k + 1) := List.drop_eq_getElem_cons kl
  have sorted : (ordE es).Pairwise (fun a b => PySem.W.dataLe false (keyE (comm es)) a b = true) := PySem.W.sort_pairwise (le_total _) es
  have sd := sorted.drop (i := k)
  rw [hd] at sd dm
  have hE : (ordE es)[k] ∈ es := (inO _).mp (List.getElem_mem kl)
  have hRk : (ordE es)[k] ∈ R := hR.mem_iff.mpr (by rw [hd]; exact List.mem_cons_self)
  refine ⟨?_, mR⟩
  rw [List.getElem?_eq_getElem kl]
  congr 1
  rcases List.mem_cons.mp dm with q | q
  · exact q.symm
  · have h1 : ltE (leastE x R) (ordE es)[k] = false := (h.le hE (inR _ mR)).mp ((List.pairwise_cons.mp sd).1 _ q)
    have h2 : ltE (ordE es)[k] (leastE x R) = false := hmin _ hRk
    exact h.di _ hE _ (inR _ mR) (lt_anti (h.co _ hE) (h.co _ (inR _ mR)) (h.ok _ hE).u0 h2 h1)
end My
/-! part KitQ -/
namespace My
open PySem PySem.Spec PyProof.Rows L2
/-- an expression, then what follows it, with a word between them -/
def tECut (t : TE) : TE := fun σ H Q => ∃ Mid : V → Hp → Prop, t σ H Mid ∧ ∀ v H', Mid v H' → Q v H'
theorem pe_cut {X : Cx} {e : Expr} {t : TE} (h : PE X e t) : PE X e (tECut t) := by
  refine ⟨fun pins s σ H Q I ⟨Mid, hm, hu⟩ => ?_⟩
  refine thn (h.run pins s σ H Mid I hm) fun v s1 ⟨x, H1, I1, r1, q1⟩ => ⟨x, H1, I1, r1, hu _ _ q1⟩
section
variable {J : It} {n : Nat} {G : Hp → Prop} {Y : Nat → Hp → V → Hp → Prop} {g : TG} {tt : TT} {te : TE} {vs : List Nat} {σ : L2.St} {H1 : Hp} {D : Addr} {Qd : Hp → Prop}
/-- a comprehension whose items are only known to be Ok; D holds a list meanwhile -/
theorem lc_rel2 (w : Walk J n G Y) (Ok : Nat → V → Hp → Prop) (small : n < sizeLine) (nD : H1 D = none) (hG : ∀ H', Same H1 H' → G H') (mono : ∀ i y H H', (∀ b o, b ≠ D → H b = some o → H' b = some o) → Ok i y H → Ok i y H')
    (hs : ∀ (i : Nat) (x : V) (H H' : Hp) (R : V → Hp → Prop) (Rn : Hp → Prop), i < n → Same H1 H → (∃ zs, H D = some (.lst zs)) → Y i H x H' → (∀ y H4, Same H H4 → Ok i y H4 → R y H4) →
      g x (wipe σ vs) H' fun σ2 H2 => wipe σ2 vs = wipe σ vs ∧ tt σ2 H2 fun b H3 => if b = true then te σ2 H3 R else Rn H3)
    (hd : ∀ H' ys, Same H1 H' → ys.length = n → (∀ i y, ys[i]? = some y → Ok i y H') → H' D = some (.lst ys) → Qd H') :
    ∃ W : Nat → Nat → Hp → Prop, (∃ m, W 0 m (upd H1 D (.lst []))) ∧ ∀ i m H, W i m H →
      (J.stop i H ∧ Qd H) ∨ (J.go i H ∧ ∃ Nx : Hp → Prop, (∀ H', Nx H' → ∃ m', m' < m ∧ W (i + 1) m' H') ∧ ∀ x H', J.yld i H x H' → g x (wipe σ vs) H' fun σ2 H2 => wipe σ2 vs = wipe σ vs ∧ tt σ2 H2 fun b H3 =>
        if b = true then te σ2 H3 fun y H4 => ∃ acc, H4 D = some (.lst acc) ∧ acc.length < sizeLine ∧ Nx (upd H4 D (.lst (acc ++ [y]))) else Nx H3) := by
  refine lc_it w (fun i H => Same H1 H ∧ ∃ ys : List V, ys.length = i ∧ (∀ k y, ys[k]? = some y → Ok k y H) ∧ H D = some (.lst ys)) ?_ (fun i H _ p => hG H p.1) (fun i x H H' hi p y => ?_) (fun H p => ?_)
  · exact ⟨same_new nD _, [], rfl, fun k y h => by simp at h, upd_same⟩
  · obtain ⟨s1, ys, rfl, ok, e⟩ := p
    refine hs ys.length x H H' _ _ hi s1 ⟨_, e⟩ y fun z H4 s o4 => ?_
    refine ⟨_, s _ _ e, Nat.lt_trans hi small, fun b o q => ?_, ys ++ [z], by rw [List.length_append, List.length_singleton], fun k u hu => ?_, upd_same⟩
    · rw [upd_ne (ne_of_none q nD)]
      exact s _ _ (s1 _ _ q)
    · have back : ∀ b o, b ≠ D → H4 b = some o → upd H4 D (.lst (ys ++ [z])) b = some o := fun b o hb q => by rw [upd_ne hb]; exact q
      by_cases hk : k < ys.length
      · rw [List.getElem?_append_left hk] at hu
        exact mono k u _ _ back (mono k u _ _ (fun b o _ q => s b o q) (ok k u hu))
      · rw [List.getElem?_append_right (by omega)] at hu
        have k0 : k = ys.length := by
          have := (List.getElem?_eq_some_iff.mp hu).1
          rw [List.length_singleton] at this
          omega
        subst k0
        rw [Nat.sub_self] at hu
        obtain rfl : z = u := Option.some.inj hu
        exact mono _ _ _ _ back o4
  · obtain ⟨s1, ys, h2, ok, e⟩ := p
    exact hd H ys s1 h2 ok e
end
theorem perm_map_inv {α β : Type} {f : α → β} {l m : List β} (h : l.Perm m) : ∀ es : List α, m = es.map f → ∃ es' : List α, l = es'.map f ∧ es'.Perm es := by
  induction h with
  | nil => intro es e; exact ⟨[], rfl, by cases es with | nil => exact .nil | cons _ _ => cases e⟩
  | cons x h ih =>
    intro es e
    cases es with
    | nil => cases e
    | cons a es =>
      rw [List.map_cons] at e
      cases e
      obtain ⟨es', rfl, p⟩ := ih es rfl
      exact ⟨a :: es', rfl, .cons a p⟩
  | swap x y l =>
    intro es e
    match es, e with
    | [], e => cases e
    | [_], e => cases e
    | a :: b :: es, e =>
      rw [List.map_cons, List.map_cons] at e
      cases e
      exact ⟨b :: a :: es, rfl, .swap a b es⟩
  | trans h1 h2 ih1 ih2 =>
    intro es e
    obtain ⟨es2, e2, p2⟩ := ih2 es e
    obtain ⟨es1, e1, p1⟩ := ih1 es2 e2
    exact ⟨es1, e1, p1.trans p2⟩
theorem eqv_pos {K : PySem.W.Frag} {H : Hp} {a b : Addr} {p : Nat × Nat} (h1 : SqT K H a (pV p)) (h2 : SqT K H b (pV p)) (n : Nat) : Eqv K H (n + 2) (.ref a) (.ref b) :=
  eqv_tup h1 h2 (by show 2 < sizeLine; decide) (.cons (eqv_scal rfl) (.cons (eqv_scal rfl) .nil))
theorem eqv_posV {K : PySem.W.Frag} {H : Hp} {v w : V} {x : Option (Nat × Nat)} (h1 : PosV K H x v) (h2 : PosV K H x w) (n : Nat) : Eqv K H (n + 2) v w := by
  cases x with
  | none =>
    obtain rfl : v = .non := h1
    obtain rfl : w = .non := h2
    exact eqv_scal rfl
  | some p =>
    obtain ⟨a, rfl, ha⟩ := h1
    obtain ⟨b, rfl, hb⟩ := h2
    exact eqv_pos ha hb n
theorem PosV.same {K : PySem.W.Frag} {H H' : Hp} (s : Same H H') {x : Option (Nat × Nat)} {v : V} (h : PosV K H x v) : PosV K H' x v := by
  cases x with
  | none => exact h
  | some p =>
    obtain ⟨a, rfl, ha⟩ := h
    exact ⟨a, rfl, Same.seqT s ha⟩
theorem Drawn'.ok {p : Nat × Nat} (h : Drawn' p) : PosOk p := ⟨h.o0, h.u0, by have := h.ob; omega, by have := h.ub; omega⟩
theorem Drawn'.mid {p q : Nat × Nat} (h : Drawn' p) (k : Drawn' q) : MidOk p q := by
  have a1 : p.1 * q.2 ≤ 2000000 * 2 ^ 20 := Nat.mul_le_mul h.ob k.ub
  have a2 : q.1 * p.2 ≤ 2000000 * 2 ^ 20 := Nat.mul_le_mul k.ob h.ub
  have a3 : p.2 * q.2 ≤ 2 ^ 20 * 2 ^ 20 := Nat.mul_le_mul h.ub k.ub
  refine ⟨by omega, ?_⟩
  rw [Nat.mul_assoc]
  omega
theorem Drawn'.next {p : Nat × Nat} (h : Drawn' p) (l : p.1 ≤ 200) : Drawn' (p.1 + p.2, p.2) := by
  refine ⟨by have := h.o0; show 0 < p.1 + p.2; omega, by have := h.ub; show p.1 + p.2 ≤ 2000000; omega, h.du, ?_⟩
  show Nat.gcd (p.1 + p.2) p.2 = 1
  rw [Nat.gcd_add_self_left]
  exact h.co
theorem low_next {p : Nat × Nat} (h : Drawn' p) : lowN (p.1 + p.2) p.2 = (p.1 + p.2, p.2) := by
  have c : Nat.gcd (p.1 + p.2) p.2 = 1 := by
    rw [Nat.gcd_add_self_left]
    exact h.co
  unfold lowN
  rw [c, Nat.div_one, Nat.div_one]
theorem mid_comm (p q : Nat × Nat) : midN p q = midN q p := by
  unfold midN
  rw [Nat.add_comm, Nat.mul_assoc, Nat.mul_comm p.2 q.2, ← Nat.mul_assoc]
theorem less_irrefl (p : Nat × Nat) : lessP p p = false := decide_eq_false (Nat.lt_irrefl _)
theorem less_low {a b c d : Nat} (h0 : 0 < Nat.gcd a b) : lessP (c, d) (lowN a b) = decide (c * b < a * d) := by
  obtain ⟨x, hx⟩ := Nat.gcd_dvd_left a b
  obtain ⟨y, hy⟩ := Nat.gcd_dvd_right a b
  unfold lessP lowN
  have e1 : a / Nat.gcd a b = x := by
    conv => lhs; lhs; rw [hx]
    exact Nat.mul_div_cancel_left _ h0
  have e2 : b / Nat.gcd a b = y := by
    conv => lhs; lhs; rw [hy]
    exact Nat.mul_div_cancel_left _ h0
  show decide (c * (b / Nat.gcd a b) < a / Nat.gcd a b * d) = _
  rw [e1, e2]
  have l : c * b = Nat.gcd a b * (c * y) := by
    conv => lhs; rw [hy]
    ac_rfl
  have r : a * d = Nat.gcd a b * (x * d) := by
    conv => lhs; rw [hx]
    ac_rfl
  rw [l, r]
  simp only [Nat.mul_lt_mul_left h0]
theorem low_less {a b c d : Nat} (h0 : 0 < Nat.gcd a b) : lessP (lowN a b) (c, d) = decide (a * d < c * b) := by
  obtain ⟨x, hx⟩ := Nat.gcd_dvd_left a b
  obtain ⟨y, hy⟩ := Nat.gcd_dvd_right a b
  unfold lessP lowN
  have e1 : a / Nat.gcd a b = x := by
    conv => lhs; lhs; rw [hx]
    exact Nat.mul_div_cancel_left _ h0
  have e2 : b / Nat.gcd a b = y := by
    conv => lhs; lhs; rw [hy]
    exact Nat.mul_div_cancel_left _ h0
  show decide (a / Nat.gcd a b * d < c * (b / Nat.gcd a b)) = _
  rw [e1, e2]
  have l : c * b = Nat.gcd a b * (c * y) := by
    conv => lhs; rw [hy]
    ac_rfl
  have r : a * d = Nat.gcd a b * (x * d) := by
    conv => lhs; rw [hx]
    ac_rfl
  rw [l, r]
  simp only [Nat.mul_lt_mul_left h0]
theorem less_mid {p q : Nat × Nat} (hp : 0 < p.2) (hq : 0 < q.2) (h : lessP p q = true) : lessP p (midN p q) = true ∧ lessP (midN p q) q = true := by
  have h1 : p.1 * q.2 < q.1 * p.2 := of_decide_eq_true h
  obtain ⟨a, b⟩ := p
  obtain ⟨c, d⟩ := q
  have h1 : a * d < c * b := h1
  have hp : 0 < b := hp
  have hq : 0 < d := hq
  have g0 : 0 < Nat.gcd (a * d + c * b) (2 * b * d) := Nat.gcd_pos_of_pos_right _ (Nat.mul_pos (Nat.mul_pos (by decide) hp) hq)
  have m1 : a * d * b < c * b * b := Nat.mul_lt_mul_of_pos_right h1 hp
  have m2 : a * d * d < c * b * d := Nat.mul_lt_mul_of_pos_right h1 hq
  constructor
  · show lessP (a, b) (lowN (a * d + c * b) (2 * b * d)) = true
    rw [less_low g0]
    refine decide_eq_true ?_
    rw [Nat.add_mul]
    have e : a * (2 * b * d) = 2 * (a * d * b) := by ac_rfl
    omega
  · show lessP (lowN (a * d + c * b) (2 * b * d)) (c, d) = true
    rw [low_less g0]
    refine decide_eq_true ?_
    rw [Nat.add_mul]
    have e : c * (2 * b * d) = 2 * (c * b * d) := by ac_rfl
    omega
theorem less_total {p q : Nat × Nat} (h : Drawn' p) (k : Drawn' q) (ne : p ≠ q) (l : lessP p q = false) : lessP q p = true := by
  have h1 : ¬ p.1 * q.2 < q.1 * p.2 := of_decide_eq_false l
  refine decide_eq_true ?_
  have : p.1 * q.2 ≠ q.1 * p.2 := fun e => ne (pos_eq h.co k.co h.u0 e)
  omega
end My
/-! part KitQ2 -/
namespace My
open PySem PySem.Spec PyProof.Rows L2
def enD (e : Ent) : PyData := .tuple [pD e.p, thD e]
theorem enD_n {e f : Ent} (h : PyData.eqv (enD e) (enD f) = true) : e.n = f.n := by
  simp [enD, thD, pD, PyData.eqv, PyData.eqvAll] at h
  exact h.2.2
theorem enD_plain (e : Ent) : (enD e).plain = true := by simp [enD, thD, pD, PyData.plain, PyData.plainAll]
theorem enD_self (e : Ent) : PyData.eqv (enD e) (enD e) = true := SeqAt.eqv_refl_plain _ (enD_plain e)
theorem enD_depth (e : Ent) : (enD e).depth ≤ 60 := by
  have : (enD e).depth = 2 := by simp [enD, thD, pD, PyData.depth, PyData.depthAll]
  omega
theorem enD_plains : ∀ es : List Ent, PyData.plainAll (es.map enD) = true
  | [] => rfl
  | e :: es => by
    rw [List.map_cons, PyData.plainAll, enD_plain, enD_plains es]
    rfl
theorem thD_depth (e : Ent) : (thD e).depth ≤ 60 := by
  have : (thD e).depth = 1 := by simp [thD, PyData.depth, PyData.depthAll]
  omega
theorem enD_dp {K : PySem.W.Frag} {H : Hp} {e : Ent} (h : EntAt K H e) : Dp K H (.ref e.a) (enD e) := .tup h.1 (.cons (pD_dp h.2.1) (.cons (.tup h.2.2 (.cons (.str _) (.cons (.int _) .nil))) .nil))
theorem thD_dp {K : PySem.W.Frag} {H : Hp} {e : Ent} (h : EntAt K H e) : Dp K H (.ref e.ta) (thD e) := .tup h.2.2 (.cons (.str _) (.cons (.int _) .nil))
theorem enD_dps {K : PySem.W.Frag} {H : Hp} : ∀ {es : List Ent}, (∀ e ∈ es, EntAt K H e) → DpAll K H (es.map fun e => V.ref e.a) (es.map enD)
  | [], _ => .nil
  | e :: es, h => .cons (enD_dp (h e List.mem_cons_self)) (enD_dps fun x hx => h x (List.mem_cons_of_mem _ hx))
theorem thD_dps {K : PySem.W.Frag} {H : Hp} : ∀ {es : List Ent}, (∀ e ∈ es, EntAt K H e) → DpAll K H (es.map fun e => V.ref e.ta) (es.map thD)
  | [], _ => .nil
  | e :: es, h => .cons (thD_dp (h e List.mem_cons_self)) (thD_dps fun x hx => h x (List.mem_cons_of_mem _ hx))
theorem ents_shaped {es : List Ent} (h : ∀ e ∈ es, PyData.strOk e.o = true) : SeqAt.shaped (.list (es.map enD)) = true := by
  have l : PyData.canLayAll0 (es.map enD) = true := by
    induction es with
    | nil => rfl
    | cons e es ih =>
      rw [List.map_cons, PyData.canLayAll0, ih fun x hx => h x (List.mem_cons_of_mem _ hx), Bool.and_true]
      have := h e List.mem_cons_self
      simp [enD, thD, pD, PyData.canLay0, PyData.canLayAll0, this]
  have d : PyData.depth (.list (es.map enD)) ≤ 3 := by
    have : PyData.depthAll (es.map enD) ≤ 2 := by
      clear h l
      induction es with
      | nil => simp [PyData.depthAll]
      | cons e es ih =>
        have : (enD e).depth = 2 := by simp [enD, thD, pD, PyData.depth, PyData.depthAll]
        simp only [List.map_cons, PyData.depthAll, this]
        omega
    simp only [PyData.depth]
    omega
  show (PyData.canLayAll0 (es.map enD) && decide (PyData.depth (.list (es.map enD)) ≤ 64)) = true
  rw [l, decide_eq_true (by omega)]
  rfl
theorem ents_self (es : List Ent) : PyData.eqv (.list (es.map enD)) (.list (es.map enD)) = true := by
  refine SeqAt.eqv_refl_plain _ ?_
  rw [PyData.plain]
  exact enD_plains es
theorem perm_erase {α : Type} {l : List α} {j : Nat} {x : α} (h : l[j]? = some x) : l.Perm (x :: l.eraseIdx j) := by
  obtain ⟨hj, e⟩ := List.getElem?_eq_some_iff.mp h
  have : l.Perm (x :: (l.take j ++ l.drop (j + 1))) := by
    have e2 : l = l.take j ++ x :: l.drop (j + 1) := by
      rw [← e, ← List.drop_eq_getElem_cons hj, List.take_append_drop]
    conv => lhs; rw [e2]
    exact List.perm_middle
  rw [List.eraseIdx_eq_take_drop_succ]
  exact this
theorem place_of {R : List Ent} {m : Ent} (hm : m ∈ R) (di : ∀ e ∈ R, ∀ f ∈ R, e.n = f.n → e = f) : ∃ j, SeqAt.dataPlace (R.map enD) (enD m) = some j ∧ R[j]? = some m := by
  cases h : SeqAt.dataPlace (R.map enD) (enD m) with
  | none =>
    have := List.findIdx?_eq_none_iff.mp h (enD m) (List.mem_map.mpr ⟨m, hm, rfl⟩)
    rw [enD_self] at this
    cases this
  | some j =>
    obtain ⟨h1, h2, _⟩ := List.findIdx?_eq_some_iff_getElem.mp h
    rw [List.length_map] at h1
    rw [List.getElem_map] at h2
    have e := di _ (List.getElem_mem h1) m hm (enD_n h2)
    exact ⟨j, rfl, by rw [List.getElem?_eq_getElem h1, e]⟩
theorem map_erase {α β : Type} (f : α → β) : ∀ (l : List α) (j : Nat), (l.map f).eraseIdx j = (l.eraseIdx j).map f
  | [], _ => rfl
  | _ :: _, 0 => rfl
  | x :: l, j + 1 => by
    show f x :: (l.map f).eraseIdx j = f x :: (l.eraseIdx j).map f
    rw [map_erase f l j]
/-- the list of the things, in the order: the data that they are -/
theorem eqv_things {K : PySem.W.Frag} {H : Hp} {a b : Addr} {es : List Ent} (h1 : SqL K H a (es.map fun e => V.ref e.ta)) (h2 : SqL K H b (es.map fun e => V.ref e.ta)) (hs : es.length < sizeLine) (h : ∀ e ∈ es, EntAt K H e) (n : Nat) : Eqv K H (n + 3) (.ref a) (.ref b) := by
  refine .inr (.inl ⟨a, b, _, _, rfl, rfl, h1, h2, rfl, by rw [List.length_map]; exact hs, fun i x y hx hy => ?_⟩)
  rw [hx] at hy
  obtain rfl : x = y := Option.some.inj hy
  rw [List.getElem?_map] at hx
  obtain ⟨e, he, rfl⟩ := Option.map_eq_some_iff.mp hx
  have := (h e (List.mem_of_getElem? he)).2.2
  exact eqv_tup this this (by show 2 < sizeLine; decide) (.cons (eqv_scal rfl) (.cons (eqv_scal rfl) .nil))
/-- sorted by the things: those of a list whose things ascend -/
theorem srt_things {es R : List Ent} (hp : R.Perm es) (up : es.Pairwise fun e f => e.o = f.o ∧ e.n < f.n) : (srtD (R.map fun e => V.ref e.ta) (R.map thD)).map Prod.fst = es.map fun e => V.ref e.ta := by
  unfold srtD
  have e : (R.map fun e => V.ref e.ta).zip (R.map thD) = R.map fun e => (V.ref e.ta, thD e) := by rw [List.zip_map']
  rw [e, ← PySem.W.sort_maps (r := PySem.W.dataLe false thD) (fun e : Ent => (V.ref e.ta, thD e)) (fun a _ b _ => rfl), List.map_map]
  have tl : PySem.W.TotalLe (PySem.W.dataLe false thD) := PySem.W.sortLe_total _ _ _
  have le_not : ∀ e f : Ent, PySem.W.dataLe false thD e f = !PySem.W.dataLt (thD f) (thD e) := fun _ _ => rfl
  have same : R.mergeSort (PySem.W.dataLe false thD) = es := by
    refine List.Perm.eq_of_pairwise (le := fun a b => PySem.W.dataLe false thD a b = true) ?_ (PySem.W.sort_pairwise tl R) ?_ ((List.mergeSort_perm R _).trans hp)
    · intro a b ha hb h1 h2
      have ha : a ∈ es := hp.mem_iff.mp ((List.mergeSort_perm R _).mem_iff.mp ha)
      rw [le_not, Bool.not_eq_true'] at h1 h2
      have n1 := th_anti h1 h2
      obtain ⟨i, hi, ei⟩ := List.getElem_of_mem ha
      obtain ⟨j, hj, ej⟩ := List.getElem_of_mem hb
      rcases Nat.lt_trichotomy i j with q | q | q
      · have := (List.pairwise_iff_getElem.mp up i j hi hj q).2
        rw [ei, ej] at this
        omega
      · subst q
        exact ei.symm.trans ej
      · have := (List.pairwise_iff_getElem.mp up j i hj hi q).2
        rw [ei, ej] at this
        omega
    · refine up.imp fun {a b} h => ?_
      rw [le_not, th_lt, if_pos h.1.symm, decide_eq_false (by omega)]
      rfl
  rw [same]
  rfl
/-- the halves -/
structure HalfOk (k : Nat) (p : Nat × Nat) : Prop where
  o0 : 0 < p.1
  le : p.1 ≤ p.2
  ud : p.2 ∣ 2 ^ k
theorem HalfOk.u0 {k : Nat} {p : Nat × Nat} (h : HalfOk k p) : 0 < p.2 := Nat.lt_of_lt_of_le h.o0 h.le
theorem HalfOk.ub {k : Nat} {p : Nat × Nat} (h : HalfOk k p) (hk : k ≤ 50) : p.2 ≤ 2 ^ 50 := Nat.le_trans (Nat.le_of_dvd (Nat.pow_pos (by decide)) h.ud) (Nat.pow_le_pow_right (by decide) hk)
theorem HalfOk.ok {k : Nat} {p : Nat × Nat} (h : HalfOk k p) (hk : k ≤ 50) : PosOk p := ⟨h.o0, h.u0, by have := h.ub hk; have := h.le; omega, by have := h.ub hk; omega⟩
theorem HalfOk.down {k : Nat} {o u : Nat} (h0 : 0 < o) (hl : o ≤ u) (hd : u ∣ 2 ^ k) : HalfOk k (lowN o u) := by
  have g0 : 0 < Nat.gcd o u := Nat.gcd_pos_of_pos_left _ h0
  refine ⟨Nat.div_pos (Nat.gcd_le_left _ h0) g0, Nat.div_le_div_right hl, Nat.dvd_trans (Nat.div_dvd_of_dvd (Nat.gcd_dvd_right _ _)) hd⟩
theorem HalfOk.half {k : Nat} {p : Nat × Nat} (h : HalfOk k p) : HalfOk (k + 1) (lowN p.1 (2 * p.2)) :=
  .down h.o0 (by have := h.le; omega) (by rw [Nat.pow_succ, Nat.mul_comm]; exact Nat.mul_dvd_mul h.ud (Nat.dvd_refl 2))
theorem HalfOk.toOne {k : Nat} {p : Nat × Nat} (h : HalfOk k p) : HalfOk (k + 1) (midN p (1, 1)) := by
  show HalfOk (k + 1) (lowN (p.1 * 1 + 1 * p.2) (2 * p.2 * 1))
  have := h.le
  have := h.o0
  refine .down (by omega) (by omega) ?_
  rw [Nat.pow_succ, Nat.mul_one, Nat.mul_comm]
  exact Nat.mul_dvd_mul h.ud (Nat.dvd_refl 2)
theorem HalfOk.midOk {k : Nat} {p : Nat × Nat} (h : HalfOk k p) (hk : k ≤ 50) : MidOk p (1, 1) := by
  have := h.ub hk
  have := h.le
  exact ⟨by show p.1 * 1 + 1 * p.2 < 2 ^ 62; omega, by show 2 * p.2 * 1 < 2 ^ 62; omega⟩
theorem Drawn'.entOk {e : Ent} (h : Drawn' e.p) : EntOk e := ⟨h.u0, Nat.dvd_trans h.du (Nat.pow_dvd_pow 2 (by decide)), by have := h.ob; omega⟩
end My
namespace My
open PySem PySem.Spec PyProof.Rows L2
theorem k_op_ltD {X : Cx} (K : PySem.W.Frag) (h : X.K = K) (hu : X.A.units + 64 < cLine) : OpR X (compareOp .Lt) (rLtD K) := by
  subst h
  exact op_ltD hu
theorem k_mt_removeD {X : Cx} (K : PySem.W.Frag) (h : X.K = K) (hu : X.A.units + 64 < cLine) : MtM X "list.remove" (rRemD K) := by
  subst h
  exact mt_removeD hu
theorem cross_eq (p r : Nat × Nat) : [V.int ((p.1 : Int) * (r.2 : Int) + (r.1 : Int) * (p.2 : Int)), V.int ((2 : Int) * (p.2 : Int) * (r.2 : Int))] = [nV (p.1 * r.2 + r.1 * p.2), nV (2 * p.2 * r.2)] := by
  unfold nV
  rw [Int.natCast_add, Int.natCast_mul, Int.natCast_mul, Int.natCast_mul, Int.natCast_mul]
  rfl
theorem ents_of {P : Nat → Ent → Prop} {ys : List V} (h : ∀ i y, ys[i]? = some y → ∃ e : Ent, y = .ref e.a ∧ P i e) : ∃ es : List Ent, ys = es.map (fun e => V.ref e.a) ∧ ∀ i e, es[i]? = some e → P i e := by
  induction ys generalizing P with
  | nil => exact ⟨[], rfl, fun i e h => by simp at h⟩
  | cons y ys ih =>
    obtain ⟨e, rfl, k⟩ := h 0 y rfl
    obtain ⟨es, rfl, ks⟩ := ih (P := fun i => P (i + 1)) fun i z hz => h (i + 1) z hz
    refine ⟨e :: es, rfl, fun i f hf => ?_⟩
    cases i with
    | zero =>
      obtain rfl := Option.some.inj hf
      exact k
    | succ i => exact ks i f hf
theorem least_snoc {l : List Ent} {j : Nat} {e x : Ent} (h : l[j]? = some e) : leastE x (l.take (j + 1)) = if ltE e (leastE x (l.take j)) = true then e else leastE x (l.take j) := by
  unfold leastE
  rw [take_snoc h, List.foldl_append]
  rfl
theorem Drawn'.midB {p q : Nat × Nat} (h : Drawn' p) (k : Drawn' q) : (midN p q).1 < 2 ^ 60 ∧ (midN p q).2 < 2 ^ 60 := by
  have a1 : p.1 * q.2 ≤ 2000000 * 2 ^ 20 := Nat.mul_le_mul h.ob k.ub
  have a2 : q.1 * p.2 ≤ 2000000 * 2 ^ 20 := Nat.mul_le_mul k.ob h.ub
  have a3 : p.2 * q.2 ≤ 2 ^ 20 * 2 ^ 20 := Nat.mul_le_mul h.ub k.ub
  have b1 : (midN p q).1 ≤ p.1 * q.2 + q.1 * p.2 := Nat.div_le_self _ _
  have b2 : (midN p q).2 ≤ 2 * p.2 * q.2 := Nat.div_le_self _ _
  rw [Nat.mul_assoc] at b2
  omega
theorem sqT_over {K : PySem.W.Frag} {H : Hp} {a l : Addr} {xs zs : List V} {o : HO} (hl : H l = some (.lst zs)) (h : SqT K H a xs) : SqT K (upd H l o) a xs := by
  rcases h with (h | ⟨u, h⟩) | h
  · exact .inl (.inl (by rw [upd_ne (ne_of h hl (by intro z; cases z))]; exact h))
  · exact .inl (.inr ⟨u, by rw [upd_ne (ne_of h hl (by intro z; cases z))]; exact h⟩)
  · exact .inr h
theorem EntAt.over {K : PySem.W.Frag} {H : Hp} {e : Ent} {l : Addr} {zs : List V} {o : HO} (hl : H l = some (.lst zs)) (h : EntAt K H e) : EntAt K (upd H l o) e := ⟨sqT_over hl h.1, sqT_over hl h.2.1, sqT_over hl h.2.2⟩
end My
/-! part K03i -/
namespace Kx
open PySem PySem.Spec PyProof.Rows L2 My
section
variable {P : Program} {w : World} {K : PySem.W.Frag} {mg : Str → Option Value} {base : Heap} (T : Tx K mg)
theorem ok_same : ∀ n : Nat, FnOk P w K mg base CX0 n T.f__law_same T.d__law_same ["_law_found", "_law_due"] (spSame K n)
  | 0 => same_none
  | n + 1 => ok_same1 T (ok_same n)
set_option maxHeartbeats 8000000 in
theorem ok_law : FnOk P w K mg base CX0 5 T.f_law T.d_law ["_law_script"] (spLaw K) := by
  have G__law_bag := ok_bag (P := P) (w := w) (base := base) T
  have G__law_draw := ok_draw (P := P) (w := w) (base := base) T
  have G__law_of := ok_of (P := P) (w := w) (base := base) T
  have G__law_mixed := ok_mixed (P := P) (w := w) (base := base) T
  have G__law_position := ok_position (P := P) (w := w) (base := base) T
  have G__law_low := ok_law_low (P := P) (w := w) (base := base) T
  have G__law_less := ok_law_less (P := P) (w := w) (base := base) T
  have G_lowest := ok_lowest (P := P) (w := w) (base := base) T
  have G_middle := ok_middle (P := P) (w := w) (base := base) T
  have G_is_below := ok_is_below (P := P) (w := w) (base := base) T
  have G_position_behind := ok_behind (P := P) (w := w) (base := base) T
  have G_ordered := ok_ordered (P := P) (w := w) (base := base) T
  have G_orderedT := ok_orderedT (P := P) (w := w) (base := base) T
  have G__law_same := ok_same (P := P) (w := w) (base := base) T 4
  have B_lowest : KBn K T.d_lowest ["over", "under"] 0 ["under", "over"] _ _ := kbn_of T.F_lowest 0 [1, 0] fun _ _ _ _ _ _ us ws h1 h2 => match us, ws, h1, h2 with | [], [_, _], _, _ => rfl
  have B_middle : KBn K T.d_middle ["one", "other"] 0 ["other", "one"] _ _ := kbn_of T.F_middle 0 [1, 0] fun _ _ _ _ _ _ us ws h1 h2 => match us, ws, h1, h2 with | [], [_, _], _, _ => rfl
  have B_is_below : KBn K T.d_is_below ["one", "other"] 0 ["other", "one"] _ _ := kbn_of T.F_is_below 0 [1, 0] fun _ _ _ _ _ _ us ws h1 h2 => match us, ws, h1, h2 with | [], [_, _], _, _ => rfl
  have B_position_behind : KBn K T.d_position_behind ["one", "other"] 0 ["other", "one"] _ _ := kbn_of T.F_position_behind 0 [1, 0] fun _ _ _ _ _ _ us ws h1 h2 => match us, ws, h1, h2 with | [], [_, _], _, _ => rfl
  have B_ordered : KBn K T.d_ordered ["pairs"] 0 ["pairs"] _ _ := kbn_of T.F_ordered 0 [0] fun _ _ _ _ _ _ us ws h1 h2 => match us, ws, h1, h2 with | [], [_], _, _ => rfl
  refine T.F_law.ok sc_law (fun vs H Q E h => ?_) (fun cdv A outer s H vs Q E hr h => ?_)
  · obtain ⟨a, ns, rfl, _⟩ := h
    rfl
  obtain ⟨a, ns, rfl, hS, h63, q⟩ := h
  refine ⟨_, (pss_cons (ps_set (i := 1) sc_law.nd rfl (Or.inr rfl) (pe_call G__law_bag (hr.mono (by decide)) (by rfl) T.g__law_bag T.F__law_bag.kp T.b__law_bag .nil pass0 (pa_cons (pv 0) pa_nil)))
  (pss_cons (ps_for PassesOwn.never rfl (pi_range1 (by rfl) T.z_range (pa_cons pe_int pa_nil)) (pg_name (i := 2) sc_law.nd rfl (Or.inl rfl))
    (pss_cons (ps_asg (pe_tup (pa_cons (pe_call G__law_position (hr.mono (by decide)) (by rfl) T.g__law_position T.F__law_position.kp T.b__law_position .nil pass0 (pa_cons (pv 1) pa_nil)) (pa_cons (pe_call G__law_position (hr.mono (by decide)) (by rfl) T.g__law_position T.F__law_position.kp T.b__law_position .nil pass0 (pa_cons (pv 1) pa_nil)) pa_nil))) (pg_tup (by rfl) (pgs_cons (pg_name (i := 3) sc_law.nd rfl (Or.inr rfl)) (pgs_cons (pg_name (i := 4) sc_law.nd rfl (Or.inl rfl)) pgs_nil))))
    (pss_cons (ps_set (i := 4) sc_law.nd rfl (Or.inl rfl) (pe_call G__law_of (hr.mono (by decide)) (by rfl) T.g__law_of T.F__law_of.kp T.b__law_of .nil pass0 (pa_cons (pv 1) (pa_cons (pe_lst (pa_cons (pv 4) (pa_cons (pv 3) (pa_cons (pe_tup (pa_cons (pe_op op_add (pe_ix (k_ix_tup K) (pv 3) pe_int (fun _ _ => rfl)) (pe_ix (k_ix_tup K) (pv 3) pe_int (fun _ _ => rfl))) (pa_cons (pe_ix (k_ix_tup K) (pv 3) pe_int (fun _ _ => rfl)) pa_nil))) (pa_cons (pv 4) pa_nil))))) pa_nil))))
    (pss_cons (ps_par (i := 5) (j := 6) (by rfl) sc_law.nd rfl rfl (by decide) rfl rfl (pa_cons (pe_op op_add pe_int (pe_call G__law_draw (hr.mono (by decide)) (by rfl) T.g__law_draw T.F__law_draw.kp T.b__law_draw .nil pass0 (pa_cons (pv 1) (pa_cons (pe_op op_pow pe_int pe_int) pa_nil)))) (pa_cons (pe_op op_add pe_int (pe_call G__law_draw (hr.mono (by decide)) (by rfl) T.g__law_draw T.F__law_draw.kp T.b__law_draw .nil pass0 (pa_cons (pv 1) (pa_cons (pe_op op_pow pe_int pe_int) pa_nil)))) pa_nil)) (by rfl))
    (pss_cons (ps_set (i := 7) sc_law.nd rfl (Or.inl rfl) (pe_call G__law_low (hr.mono (by decide)) (by rfl) T.g__law_low T.F__law_low.kp T.b__law_low .nil pass0 (pa_cons (pe_op op_add (pe_op op_mul (pe_ix (k_ix_tup K) (pv 3) pe_int (fun _ _ => rfl)) (pe_ix (k_ix_tup K) (pv 4) pe_int (fun _ _ => rfl))) (pe_op op_mul (pe_ix (k_ix_tup K) (pv 4) pe_int (fun _ _ => rfl)) (pe_ix (k_ix_tup K) (pv 3) pe_int (fun _ _ => rfl)))) (pa_cons (pe_op op_mul (pe_op op_mul pe_int (pe_ix (k_ix_tup K) (pv 3) pe_int (fun _ _ => rfl))) (pe_ix (k_ix_tup K) (pv 4) pe_int (fun _ _ => rfl))) pa_nil))))
    (pss_cons (ps_set (i := 8) sc_law.nd rfl (Or.inl rfl) (pe_lst (pa_cons (pe_call G_lowest (hr.mono (by decide)) (by rfl) T.g_lowest T.F_lowest.kp T.b_lowest .nil pass0 (pa_cons (pv 5) (pa_cons (pv 6) pa_nil))) (pa_cons (pe_callK0 G_lowest (hr.mono (by decide)) (by rfl) T.g_lowest T.F_lowest.kp B_lowest pass0 (pk_cons (pv 6) (pk_cons (pe_op op_mul (pv 5) pe_int) pk_nil))) (pa_cons (pe_call G_middle (hr.mono (by decide)) (by rfl) T.g_middle T.F_middle.kp T.b_middle .nil pass0 (pa_cons (pv 3) (pa_cons (pv 4) pa_nil))) (pa_cons (pe_callK0 G_middle (hr.mono (by decide)) (by rfl) T.g_middle T.F_middle.kp B_middle pass0 (pk_cons (pv 3) (pk_cons (pv 4) pk_nil))) (pa_cons (pe_call G_is_below (hr.mono (by decide)) (by rfl) T.g_is_below T.F_is_below.kp T.b_is_below .nil pass0 (pa_cons (pv 3) (pa_cons (pv 4) pa_nil))) (pa_cons (pe_callK0 G_is_below (hr.mono (by decide)) (by rfl) T.g_is_below T.F_is_below.kp B_is_below pass0 (pk_cons (pv 3) (pk_cons (pv 4) pk_nil))) pa_nil))))))))
    (pss_cons (ps_set (i := 9) sc_law.nd rfl (Or.inl rfl) (pe_lst (pa_cons (pe_call G__law_low (hr.mono (by decide)) (by rfl) T.g__law_low T.F__law_low.kp T.b__law_low .nil pass0 (pa_cons (pv 5) (pa_cons (pv 6) pa_nil))) (pa_cons (pe_call G__law_low (hr.mono (by decide)) (by rfl) T.g__law_low T.F__law_low.kp T.b__law_low .nil pass0 (pa_cons (pe_op op_mul (pv 5) pe_int) (pa_cons (pv 6) pa_nil))) (pa_cons (pv 7) (pa_cons (pv 7) (pa_cons (pe_call G__law_less (hr.mono (by decide)) (by rfl) T.g__law_less T.F__law_less.kp T.b__law_less .nil pass0 (pa_cons (pv 3) (pa_cons (pv 4) pa_nil))) (pa_cons (pe_call G__law_less (hr.mono (by decide)) (by rfl) T.g__law_less T.F__law_less.kp T.b__law_less .nil pass0 (pa_cons (pv 4) (pa_cons (pv 3) pa_nil))) pa_nil))))))))
    (pss_cons (ps_if (pt_not (pt_val (pe_call G__law_same (hr.mono (by decide)) (by rfl) T.g__law_same T.F__law_same.kp T.b__law_same .nil pass0 (pa_cons (pv 8) (pa_cons (pv 9) pa_nil)))))
      (pss_one (ps_ret pe_bl))
      pss_nil)
    (C8.pss_cut (ps_asg (pe_ifExp (pt_val (pe_call G__law_less (hr.mono (by decide)) (by rfl) T.g__law_less T.F__law_less.kp T.b__law_less .nil pass0 (pa_cons (pv 3) (pa_cons (pv 4) pa_nil)))) (pe_tup (pa_cons (pv 3) (pa_cons (pv 4) pa_nil))) (pe_tup (pa_cons (pv 4) (pa_cons (pv 3) pa_nil)))) (pg_tup (by rfl) (pgs_cons (pg_name (i := 10) sc_law.nd rfl (Or.inr rfl)) (pgs_cons (pg_name (i := 11) sc_law.nd rfl (Or.inr rfl)) pgs_nil))))
    (pss_cons (ps_set (i := 8) sc_law.nd rfl (Or.inl rfl) (pe_lst (pa_cons (pe_call G_position_behind (hr.mono (by decide)) (by rfl) T.g_position_behind T.F_position_behind.kp T.b_position_behind .nil pass0 (pa_cons (pv 10) (pa_cons (pv 11) pa_nil))) (pa_cons (pe_call G_position_behind (hr.mono (by decide)) (by rfl) T.g_position_behind T.F_position_behind.kp T.b_position_behind .nil pass0 (pa_cons pe_non (pa_cons (pv 11) pa_nil))) (pa_cons (pe_callK0 G_position_behind (hr.mono (by decide)) (by rfl) T.g_position_behind T.F_position_behind.kp B_position_behind pass0 (pk_cons pe_non (pk_cons (pv 10) pk_nil))) (pa_cons (pe_call G_position_behind (hr.mono (by decide)) (by rfl) T.g_position_behind T.F_position_behind.kp T.b_position_behind .nil pass0 (pa_cons pe_non (pa_cons pe_non pa_nil))) pa_nil))))))
    (pss_cons (ps_set (i := 9) sc_law.nd rfl (Or.inl rfl) (pe_lst (pa_cons (pe_cut (pe_ifExp (pt_cmpR (k_op_eqD K rfl hr.units) (pv 10) (pv 11) (nomark _)) pe_non (pv 7))) (pa_cons (pe_call G__law_low (hr.mono (by decide)) (by rfl) T.g__law_low T.F__law_low.kp T.b__law_low .nil pass0 (pa_cons (pe_ix (k_ix_tup K) (pv 11) pe_int (fun _ _ => rfl)) (pa_cons (pe_op op_mul pe_int (pe_ix (k_ix_tup K) (pv 11) pe_int (fun _ _ => rfl))) pa_nil))) (pa_cons (pe_tup (pa_cons (pe_op op_add (pe_ix (k_ix_tup K) (pv 10) pe_int (fun _ _ => rfl)) (pe_ix (k_ix_tup K) (pv 10) pe_int (fun _ _ => rfl))) (pa_cons (pe_ix (k_ix_tup K) (pv 10) pe_int (fun _ _ => rfl)) pa_nil))) (pa_cons (pe_tup (pa_cons pe_int (pa_cons pe_int pa_nil))) pa_nil))))))
    (pss_cons (ps_if (pt_not (pt_val (pe_call G__law_same (hr.mono (by decide)) (by rfl) T.g__law_same T.F__law_same.kp T.b__law_same .nil pass0 (pa_cons (pv 8) (pa_cons (pv 9) pa_nil)))))
      (pss_one (ps_ret pe_bl))
      pss_nil)
    (C8.pss_cut (ps_if (PW.pt (pw_and (pt_cmpR (k_op_neD K rfl hr.units) (pv 10) (pv 11) (nomark _)) (pw_and1 (PW.pt (pw_or (pt_not (pt_val (pe_call G_is_below (hr.mono (by decide)) (by rfl) T.g_is_below T.F_is_below.kp T.b_is_below .nil pass0 (pa_cons (pv 10) (pa_cons (pe_ix ix_list (pv 8) pe_int (fun _ _ => rfl)) pa_nil))))) (pw_or (pt_not (pt_val (pe_call G_is_below (hr.mono (by decide)) (by rfl) T.g_is_below T.F_is_below.kp T.b_is_below .nil pass0 (pa_cons (pe_ix ix_list (pv 8) pe_int (fun _ _ => rfl)) (pa_cons (pv 11) pa_nil))))) (pw_or1 (pt_val (pe_call G_is_below (hr.mono (by decide)) (by rfl) T.g_is_below T.F_is_below.kp T.b_is_below .nil pass0 (pa_cons (pv 10) (pa_cons (pv 10) pa_nil)))))))))))
      (pss_one (ps_ret pe_bl))
      pss_nil)
    (pss_cons (ps_setLc (i := 12) (own := [("_law_k", 13)]) (g := gName 13) (by rfl) sc_law.nd rfl rfl (sw_true rfl rfl rfl (by decide +kernel)) (pi_range1 (by rfl) T.z_range (pa_cons (pe_call G__law_draw (hr.mono (by decide)) (by rfl) T.g__law_draw T.F__law_draw.kp T.b__law_draw .nil pass0 (pa_cons (pv 1) (pa_cons pe_int pa_nil))) pa_nil)) (blkOk_by (own := [("_law_k", 13)]) (N := N_law) (sc := defScope s_law) (by decide +kernel)) (fun _ _ _ _ _ => (pg_name (i := 13) sc_law.nd rfl (Or.inl rfl))) (fun _ _ _ _ _ => pts_nil) (fun _ _ _ _ _ => (pe_tup (pa_cons (pe_call G__law_of (hr.mono (by decide)) (by rfl) T.g__law_of T.F__law_of.kp T.b__law_of .nil pass0 (pa_cons (pv 1) (pa_cons (pe_lst (pa_cons (pv 10) (pa_cons (pv 11) (pa_cons (pv 3) (pa_cons (pe_call G__law_position (hr.mono (by decide)) (by rfl) T.g__law_position T.F__law_position.kp T.b__law_position .nil pass0 (pa_cons (pv 1) pa_nil)) pa_nil))))) pa_nil))) (pa_cons (pe_tup (pa_cons (pe_call G__law_of (hr.mono (by decide)) (by rfl) T.g__law_of T.F__law_of.kp T.b__law_of .nil pass0 (pa_cons (pv 1) (pa_cons (pe_lst (pa_cons pe_str (pa_cons pe_str (pa_cons pe_str pa_nil)))) pa_nil))) (pa_cons (pv 13) pa_nil))) pa_nil)))))
    (pss_cons (ps_set (i := 12) sc_law.nd rfl (Or.inl rfl) (pe_call G__law_mixed (hr.mono (by decide)) (by rfl) T.g__law_mixed T.F__law_mixed.kp T.b__law_mixed .nil pass0 (pa_cons (pv 1) (pa_cons (pv 12) pa_nil))))
    (pss_cons (ps_par3 (i := 14) (j := 15) (l := 9) (by rfl) sc_law.nd rfl rfl rfl (by decide) (by decide) (by decide) rfl rfl rfl (pa_cons (pe_callTy (k_call_list_of K) (by rfl) T.z_list (by decide +kernel) (pa_cons (pv 12) pa_nil)) (pa_cons (pe_callTy (k_call_list_of K) (by rfl) T.z_list (by decide +kernel) (pa_cons (pv 12) pa_nil)) (pa_cons (pe_lst pa_nil) pa_nil))) (by rfl))
    (pss_cons (ps_for PassesOwn.never rfl (pi_range1 (by rfl) T.z_range (pa_cons (pe_callB (k_call_len_seq K) (by rfl) T.z_len (by decide +kernel) (pa_cons (pv 12) pa_nil)) pa_nil)) (pg_name (i := 13) sc_law.nd rfl (Or.inl rfl))
      (pss_cons (ps_set (i := 16) sc_law.nd rfl (Or.inl rfl) (pe_ix ix_list (pv 15) pe_int (fun _ _ => rfl)))
      (pss_cons (ps_for PassesOwn.never rfl (pi_list (pv 15)) (pg_name (i := 17) sc_law.nd rfl (Or.inl rfl))
        (pss_one (ps_if (PW.pt (pw_or (pt_val (pe_call G__law_less (hr.mono (by decide)) (by rfl) T.g__law_less T.F__law_less.kp T.b__law_less .nil pass0 (pa_cons (pe_ix (k_ix_tup K) (pv 17) pe_int (fun _ _ => rfl)) (pa_cons (pe_ix (k_ix_tup K) (pv 16) pe_int (fun _ _ => rfl)) pa_nil)))) (pw_or1 (PW.pt (pw_and (pt_cmpR (k_op_eqD K rfl hr.units) (pe_ix (k_ix_tup K) (pv 17) pe_int (fun _ _ => rfl)) (pe_ix (k_ix_tup K) (pv 16) pe_int (fun _ _ => rfl)) (nomark _)) (pw_and1 (pt_cmpR (k_op_ltD K rfl hr.units) (pe_ix (k_ix_tup K) (pv 17) pe_int (fun _ _ => rfl)) (pe_ix (k_ix_tup K) (pv 16) pe_int (fun _ _ => rfl)) (nomark _))))))))
          (pss_one (ps_set (i := 16) sc_law.nd rfl (Or.inl rfl) (pv 17)))
          pss_nil)))
      (pss_cons (ps_expr (pe_bm PySem.F.plainAttrs_list PySem.F.slot_list_append PySem.F.type_list_append mt_append (pv 9) (pa_cons (pe_ix (k_ix_tup K) (pv 16) pe_int (fun _ _ => rfl)) pa_nil)))
      (pss_one (ps_expr (pe_bm PySem.F.plainAttrs_list PySem.F.slot_list_remove PySem.F.type_list_remove (k_mt_removeD K rfl hr.units) (pv 15) (pa_cons (pv 16) pa_nil))))))))
    (pss_one (ps_if (PW.pt (pw_or (pt_not (pt_val (pe_call G__law_same (hr.mono (by decide)) (by rfl) T.g__law_same T.F__law_same.kp T.b__law_same .nil pass0 (pa_cons (pe_lst (pa_cons (pe_call G_ordered (hr.mono (by decide)) (by rfl) T.g_ordered T.F_ordered.kp T.b_ordered .nil pass0 (pa_cons (pv 12) pa_nil)) (pa_cons (pe_callK0 G_orderedT (hr.mono (by decide)) (by rfl) T.g_ordered T.F_ordered.kp B_ordered pass0 (pk_cons (pe_callTy (k_call_tuple_of K) (by rfl) T.z_tuple (by decide +kernel) (pa_cons (pv 12) pa_nil)) pk_nil)) pa_nil))) (pa_cons (pe_lst (pa_cons (pv 9) (pa_cons (pv 9) pa_nil))) pa_nil))))) (pw_or1 (pt_cmpR (k_op_neD K rfl hr.units) (pv 12) (pv 14) (nomark _)))))
      (pss_one (ps_ret pe_bl))
      pss_nil)))))))))))))))))))
  (pss_cons (ps_par (i := 18) (j := 19) (by rfl) sc_law.nd rfl rfl (by decide) rfl rfl (pa_cons (pe_tup (pa_cons pe_int (pa_cons pe_int pa_nil))) (pa_cons (pe_lst pa_nil) pa_nil)) (by rfl))
  (pss_cons (ps_for PassesOwn.never rfl (pi_range1 (by rfl) T.z_range (pa_cons (pe_op op_add pe_int (pe_call G__law_draw (hr.mono (by decide)) (by rfl) T.g__law_draw T.F__law_draw.kp T.b__law_draw .nil pass0 (pa_cons (pv 1) (pa_cons pe_int pa_nil)))) pa_nil)) (pg_name (i := 13) sc_law.nd rfl (Or.inl rfl))
    (pss_cons (ps_set (i := 18) sc_law.nd rfl (Or.inl rfl) (pe_cut (pe_ifExp (pt_cmpR op_eq (pe_op op_modN (pv 13) pe_int) pe_int (nomark _)) (pe_call G_position_behind (hr.mono (by decide)) (by rfl) T.g_position_behind T.F_position_behind.kp T.b_position_behind .nil pass0 (pa_cons pe_non (pa_cons (pv 18) pa_nil))) (pe_call G_middle (hr.mono (by decide)) (by rfl) T.g_middle T.F_middle.kp T.b_middle .nil pass0 (pa_cons (pv 18) (pa_cons (pe_tup (pa_cons pe_int (pa_cons pe_int pa_nil))) pa_nil))))))
    (pss_one (ps_expr (pe_bm PySem.F.plainAttrs_list PySem.F.slot_list_append PySem.F.type_list_append mt_append (pv 19) (pa_cons (pe_tup (pa_cons (pv 18) (pa_cons (pe_tup (pa_cons pe_str (pa_cons (pv 13) pa_nil))) pa_nil))) pa_nil))))))
  (pss_one (ps_ret (pe_and (pe_call G__law_same (hr.mono (by decide)) (by rfl) T.g__law_same T.F__law_same.kp T.b__law_same .nil pass0 (pa_cons (pe_callB (k_cr_sortedD K rfl hr.units) (by rfl) T.z_sorted (by decide +kernel) (pa_cons (pe_call G_ordered (hr.mono (by decide)) (by rfl) T.g_ordered T.F_ordered.kp T.b_ordered .nil pass0 (pa_cons (pv 19) pa_nil)) pa_nil)) (pa_cons (pe_lc (own := [("_law_k", 13)]) (g := gName 13) (by rfl) sc_law.nd (pi_range1 (by rfl) T.z_range (pa_cons (pe_callB (k_call_len_seq K) (by rfl) T.z_len (by decide +kernel) (pa_cons (pv 19) pa_nil)) pa_nil)) (blkOk_by (own := [("_law_k", 13)]) (N := N_law) (sc := defScope s_law) (by decide +kernel)) (fun _ _ _ _ _ => (pg_name (i := 13) sc_law.nd rfl (Or.inl rfl))) (fun _ _ _ _ _ => pts_nil) (fun _ _ _ _ _ => (pe_tup (pa_cons pe_str (pa_cons (pv 13) pa_nil))))) pa_nil))) (pe_one (pe_call G__law_same (hr.mono (by decide)) (by rfl) T.g__law_same T.F__law_same.kp T.b__law_same .nil pass0 (pa_cons (pe_call G_ordered (hr.mono (by decide)) (by rfl) T.g_ordered T.F_ordered.kp T.b_ordered .nil pass0 (pa_cons (pe_lst pa_nil) pa_nil)) (pa_cons (pe_lst pa_nil) pa_nil))))))))))), ?_⟩
  refine ⟨_, rfl, a, ns, rfl, hS, h63, fun H1 b s1 nb hb => ?_⟩
  refine ⟨8, rfl, by decide, by decide, ?_⟩
  refine for_range (lo := 0) (n := 8) (fun i σ H' => ∃ y2 y3 y4 y5 y6 y7 y8 y9 y10 y11 y12 y13 y14 y15 y16 y17 y18 y19, σ = [some (.ref a), some (.ref b), y2, y3, y4, y5, y6, y7, y8, y9, y10, y11, y12, y13, y14, y15, y16, y17, y18, y19] ∧ Same H1 H') ⟨_, _, _, _, _, _, _, _, _, _, _, _, _, _, _, _, _, _, rfl, Same.refl _⟩ ?_ ?_
  · rintro i σ H2 hi ⟨y2, y3, y4, y5, y6, y7, y8, y9, y10, y11, y12, y13, y14, y15, y16, y17, y18, y19, rfl, s2⟩
    have hb2 := hb.same s2
    -- two positions
    refine ⟨_, rfl, b, rfl, hb2, fun H3 c1 p1 s3 e3 d1 le1 => ?_⟩
    refine ⟨_, rfl, b, rfl, hb2.same s3, fun H4 c2 p2 s4 e4 d2 le2 => ?_⟩
    refine ⟨(by show 2 ≤ sizeLine; decide), fun t nt => ?_⟩
    generalize hX : upd _ t _ = H5
    obtain ⟨s5, e5⟩ := new_at hX nt
    clear hX
    refine ⟨t, _, rfl, .inl (.inl e5), rfl, _, _, rfl, _, _, rfl, rfl, ?_⟩
    have e3 := s5 _ _ (s4 _ _ e3)
    have e4 := s5 _ _ e4
    have hb5 := hb2.same (s3.trans (s4.trans s5))
    have t1 : SqT K H5 c1 (pV p1) := .inl (.inl e3)
    refine ⟨_, rfl, _, rfl, _, rfl, _, rfl, c1, _, 0, _, rfl, rfl, t1, rfl, _, rfl, c1, _, 1, _, rfl, rfl, t1, rfl, _, _, rfl, rfl, _, rfl, c1, _, 1, _, rfl, rfl, t1, rfl, (by show 2 ≤ sizeLine; decide), fun t2 nt2 => ?_⟩
    generalize hX : upd _ t2 _ = H6
    obtain ⟨s6, e6⟩ := new_at hX nt2
    clear hX
    refine ⟨_, rfl, (by show 4 ≤ sizeLine; decide), fun l1 nl1 => ?_⟩
    generalize hX : upd _ l1 _ = H7
    obtain ⟨s7, e7⟩ := new_at hX nl1
    clear hX
    have e6 : H6 t2 = some (.tup (pV (p1.1 + p1.2, p1.2))) := by
      rw [e6]
      show some (HO.tup [V.int ((p1.1 : Int) + (p1.2 : Int)), nV p1.2]) = some (HO.tup [V.int ((p1.1 + p1.2 : Nat) : Int), nV p1.2])
      rw [Int.natCast_add]
    refine ⟨b, l1, _, rfl, hb5.same (s6.trans s7), .inl (.inl e7), (by show 0 < 4; decide), (by show 4 ≤ 1000000; decide), fun j v hv => ?_⟩
    have hq : ∃ (c : Addr) (q : Nat × Nat), v = .ref c ∧ H7 c = some (.tup (pV q)) ∧ Drawn' q := by
      have mem := List.mem_of_getElem? hv
      simp only [List.mem_cons, List.not_mem_nil, or_false] at mem
      rcases mem with e | e | e | e
      · exact ⟨c2, p2, e, s7 _ _ (s6 _ _ e4), d2⟩
      · exact ⟨c1, p1, e, s7 _ _ (s6 _ _ e3), d1⟩
      · exact ⟨t2, _, e, s7 _ _ e6, d1.next le1⟩
      · exact ⟨c2, p2, e, s7 _ _ (s6 _ _ e4), d2⟩
    obtain ⟨c3, r, rfl, g3, dr⟩ := hq
    have g1 := s7 _ _ (s6 _ _ e3)
    have hb7 := hb5.same (s6.trans s7)
    have u7 : Same H1 H7 := s2.trans (s3.trans (s4.trans (s5.trans (s6.trans s7))))
    clear hv e7 e6 e5 e4 e3 t1 d2 le2 hb2 hb5 s3 s4 s5 s6 s7
    have kp := d1.ok
    have kr := dr.ok
    have bp1 := kp.ob
    have bp2 := kp.ub
    have br1 := kr.ob
    have br2 := kr.ub
    -- over, under
    refine ⟨_, rfl, _, _, rfl, rfl, ⟨by decide, by decide, by decide⟩, b, _, rfl, hb7, by decide, by decide, fun g gl gh => ⟨_, _, rfl, rfl, ?_⟩⟩
    refine ⟨_, rfl, _, _, rfl, rfl, ⟨by decide, by decide, by decide⟩, b, _, rfl, hb7, by decide, by decide, fun f fl fh => ?_⟩
    have gh : g < 1000000 := gh
    have fh : f < 10000 := fh
    obtain ⟨m, em, m0, m1⟩ : ∃ m : Nat, 1 + g = (m : Int) ∧ 0 < m ∧ m ≤ 1000000 := ⟨(1 + g).toNat, by omega, by omega, by omega⟩
    obtain ⟨n, en, n0, n1⟩ : ∃ m : Nat, 1 + f = (m : Int) ∧ 0 < m ∧ m ≤ 1000000 := ⟨(1 + f).toNat, by omega, by omega, by omega⟩
    refine ⟨_, _, rfl, rfl, nV m, nV n, ?_, ?_⟩
    · show [V.int (1 + g), V.int (1 + f)] = [V.int (m : Int), V.int (n : Int)]
      rw [em, en]
    clear em en gl gh fl fh
    have T1 : ∀ {H'}, Same H7 H' → SqT K H' c1 (pV p1) := fun s => .inl (.inl (s _ _ g1))
    have T3 : ∀ {H'}, Same H7 H' → SqT K H' c3 (pV r) := fun s => .inl (.inl (s _ _ g3))
    have r7 := Same.refl H7
    -- half
    refine ⟨_, rfl, c1, _, 0, _, rfl, rfl, T1 r7, rfl, _, rfl, c3, _, 1, _, rfl, rfl, T3 r7, rfl, _, _, rfl, rfl, .inl ⟨by omega, by omega⟩, ?_⟩
    refine ⟨_, rfl, c3, _, 0, _, rfl, rfl, T3 r7, rfl, _, rfl, c1, _, 1, _, rfl, rfl, T1 r7, rfl, _, _, rfl, rfl, .inl ⟨by omega, by omega⟩, ?_⟩
    refine ⟨_, _, rfl, rfl, ?_⟩
    refine ⟨_, rfl, c1, _, 1, _, rfl, rfl, T1 r7, rfl, _, _, rfl, rfl, .inl ⟨by decide, by decide⟩, _, rfl, c3, _, 1, _, rfl, rfl, T3 r7, rfl, _, _, rfl, rfl, .inr ⟨by omega, by omega⟩, ?_⟩
    have mok := d1.mid dr
    have a1 := mok.a
    have a2 := mok.b
    refine ⟨p1.1 * r.2 + r.1 * p1.2, 2 * p1.2 * r.2, cross_eq p1 r, Nat.lt_of_lt_of_le (Nat.mul_pos kp.o0 kr.u0) (Nat.le_add_right _ _), Nat.mul_pos (Nat.mul_pos (by decide) kp.u0) kr.u0, by omega, by omega, fun H8 hf s8 e8 => ?_⟩
    have e8 : H8 hf = some (.tup (pV (midN p1 r))) := e8
    have six : ∀ x : Nat, V.int ((x : Int) * 6) = nV (x * 6) := fun x => by
      unfold nV
      rw [Int.natCast_mul]
      rfl
    -- told
    refine ⟨_, rfl, _, rfl, m, n, rfl, m0, n0, by omega, by omega, fun H9 k1 s9 e9 => ?_⟩
    refine ⟨_, rfl, _, rfl, _, _, rfl, rfl, .inl ⟨by omega, by omega⟩, rfl, rfl, m * 6, n, (by rw [← six] <;> rfl), by omega, n0, by omega, by omega, fun H10 k2 s10 e10 => ?_⟩
    have u10 := s8.trans (s9.trans s10)
    refine ⟨_, rfl, _, rfl, c1, c3, p1, r, rfl, T1 u10, T3 u10, kp, kr, mok, fun H11 k3 s11 e11 => ?_⟩
    have u11 := u10.trans s11
    refine ⟨_, rfl, _, rfl, rfl, rfl, c3, c1, r, p1, rfl, T3 u11, T1 u11, kr, kp, dr.mid d1, fun H12 k4 s12 e12 => ?_⟩
    have u12 := u11.trans s12
    refine ⟨_, rfl, _, rfl, c1, c3, p1, r, rfl, T1 u12, T3 u12, bp1, bp2, br1, br2, ?_⟩
    refine ⟨_, rfl, _, rfl, rfl, rfl, c3, c1, r, p1, rfl, T3 u12, T1 u12, br1, br2, bp1, bp2, ?_⟩
    refine ⟨(by show 6 ≤ sizeLine; decide), fun l2 nl2 => ?_⟩
    generalize hX : upd _ l2 _ = H13
    obtain ⟨s13, e13⟩ := new_at hX nl2
    clear hX
    have u13 := u12.trans s13
    -- due
    refine ⟨_, rfl, _, rfl, m, n, rfl, m0, n0, by omega, by omega, fun H14 k5 s14 e14 => ?_⟩
    refine ⟨_, rfl, _, _, rfl, rfl, .inl ⟨by omega, by omega⟩, _, rfl, m * 6, n, (by rw [← six] <;> rfl), by omega, n0, by omega, by omega, fun H15 k6 s15 e15 => ?_⟩
    have u15 := u13.trans (s14.trans s15)
    refine ⟨_, rfl, _, rfl, _, rfl, _, rfl, c1, c3, p1, r, rfl, T1 u15, T3 u15, bp1, bp2, br1, br2, ?_⟩
    refine ⟨_, rfl, _, rfl, c3, c1, r, p1, rfl, T3 u15, T1 u15, br1, br2, bp1, bp2, ?_⟩
    refine ⟨(by show 6 ≤ sizeLine; decide), fun l3 nl3 => ?_⟩
    generalize hX : upd _ l3 _ = H16
    obtain ⟨s16, e16⟩ := new_at hX nl3
    clear hX
    have v15 := s16
    have v14 := s15.trans v15
    have v13 := s14.trans v14
    have v12 := s13.trans v13
    have v11 := s12.trans v12
    have v10 := s11.trans v11
    have v9 := s10.trans v10
    have v8 := s9.trans v9
    have mc : midN r p1 = midN p1 r := mid_comm _ _
    rw [mc] at e12
    refine ⟨_, rfl, _, rfl, _, _, rfl, eqv_list (.inl (.inl (v13 _ _ e13))) (.inl (.inl e16)) (by show 6 < sizeLine; decide) (.cons (eqv_pos (.inl (.inl (v9 _ _ e9))) (.inl (.inl (v14 _ _ e14))) _) (.cons (eqv_pos (.inl (.inl (v10 _ _ e10))) (.inl (.inl (v15 _ _ e15))) _) (.cons (eqv_pos (.inl (.inl (v11 _ _ e11))) (.inl (.inl (v8 _ _ e8))) _) (.cons (eqv_pos (.inl (.inl (v12 _ _ e12))) (.inl (.inl (v8 _ _ e8))) _) (.cons (eqv_scal rfl) (.cons (eqv_scal rfl) .nil)))))), fun H17 s17 => ⟨true, rfl, iteF ?_⟩⟩
    have u17 := u15.trans (s16.trans s17)
    have f8 := s17 _ _ (v8 _ _ e8)
    clear e9 e10 e11 e12 e13 e14 e15 e16 v8 v9 v10 v11 v12 v13 v14 v15 u10 u11 u12 u13 u15 s8 s9 s10 s11 s12 s13 s14 s15 s16 s17 e8
    -- low, high
    refine ⟨fun σ' H' => ∃ y4 y5 y6 y8 y9, ∃ (cl ch : Addr) (lo hi : Nat × Nat), σ' = [some (.ref a), some (.ref b), some (.int (0 + (i : Int))), some (.ref c1), y4, y5, y6, some (.ref hf), y8, y9, some (.ref cl), some (.ref ch), y12, y13, y14, y15, y16, y17, y18, y19] ∧ Same H17 H' ∧ H' cl = some (.tup (pV lo)) ∧ H' ch = some (.tup (pV hi)) ∧ Drawn' lo ∧ Drawn' hi ∧ H' hf = some (.tup (pV (midN lo hi))) ∧ (lo ≠ hi → lessP lo hi = true), ?_, ?_⟩
    · refine ⟨_, rfl, _, rfl, c1, c3, p1, r, rfl, T1 u17, T3 u17, bp1, bp2, br1, br2, _, rfl, ?_⟩
      refine ite2 (fun c => ?_) (fun c => ?_)
      · refine ⟨_, rfl, _, rfl, (by show 2 ≤ sizeLine; decide), fun t nt => ?_⟩
        generalize hX : upd _ t _ = H18
        obtain ⟨s18, e18⟩ := new_at hX nt
        clear hX
        refine ⟨t, _, rfl, .inl (.inl e18), rfl, _, _, rfl, _, _, rfl, rfl, ?_⟩
        exact ⟨_, _, _, _, _, c1, c3, p1, r, rfl, s18, s18 _ _ (u17 _ _ g1), s18 _ _ (u17 _ _ g3), d1, dr, s18 _ _ f8, fun _ => c⟩
      · refine ⟨_, rfl, _, rfl, (by show 2 ≤ sizeLine; decide), fun t nt => ?_⟩
        generalize hX : upd _ t _ = H18
        obtain ⟨s18, e18⟩ := new_at hX nt
        clear hX
        refine ⟨t, _, rfl, .inl (.inl e18), rfl, _, _, rfl, _, _, rfl, rfl, ?_⟩
        refine ⟨_, _, _, _, _, c3, c1, r, p1, rfl, s18, s18 _ _ (u17 _ _ g3), s18 _ _ (u17 _ _ g1), dr, d1, (by rw [mc]; exact s18 _ _ f8), fun ne => less_total d1 dr (fun z => ne z.symm) (Bool.eq_false_iff.mpr c)⟩
    rintro σ H18 ⟨y4, y5, y6, y8, y9, cl, ch, lo, hi', rfl, s18, gl, gh, dl, dh, gm, lt⟩
    have w18 := u17.trans s18
    have hb18 := hb7.same w18
    have gc := w18 _ _ g1
    have u18 := u7.trans w18
    clear f8 u17 g1 g3 T1 T3 mok a1 a2 kr bp1 bp2 br1 br2 mc r7 s18 m0 m1 n0 n1 u7 six
    have kl := dl.ok
    have kh := dh.ok
    have bl1 := kl.ob
    have bl2 := kl.ub
    have bh1 := kh.ob
    have bh2 := kh.ub
    have TL : ∀ {H'}, Same H18 H' → SqT K H' cl (pV lo) := fun s => .inl (.inl (s _ _ gl))
    have TH : ∀ {H'}, Same H18 H' → SqT K H' ch (pV hi') := fun s => .inl (.inl (s _ _ gh))
    have r18 := Same.refl H18
    -- told
    refine ⟨_, rfl, _, rfl, _, _, some lo, some hi', rfl, ⟨cl, rfl, TL r18⟩, ⟨ch, rfl, TH r18⟩, ⟨(fun p e => by cases e; exact kl), (fun p e => by cases e; exact kh), fun p q e1 e2 => by cases e1; cases e2; exact dl.mid dh⟩, fun H19 k1 s19 w1 => ?_⟩
    refine ⟨_, rfl, _, _, none, some hi', rfl, rfl, ⟨ch, rfl, TH s19⟩, ⟨(fun p e => by cases e), (fun p e => by cases e; exact kh), fun p q e1 e2 => by cases e1⟩, fun H20 k2 s20 w2 => ?_⟩
    refine ⟨_, rfl, rfl, rfl, _, _, some lo, none, rfl, ⟨cl, rfl, TL (s19.trans s20)⟩, rfl, ⟨(fun p e => by cases e; exact kl), (fun p e => by cases e), fun p q e1 e2 => by cases e2⟩, fun H21 k3 s21 w3 => ?_⟩
    refine ⟨_, _, none, none, rfl, rfl, rfl, ⟨(fun p e => by cases e), (fun p e => by cases e), fun p q e1 e2 => by cases e1⟩, fun H22 k4 s22 w4 => ?_⟩
    refine ⟨(by show 4 ≤ sizeLine; decide), fun l4 nl4 => ?_⟩
    generalize hX : upd _ l4 _ = H23
    obtain ⟨s23, e23⟩ := new_at hX nl4
    clear hX
    have u23 := s19.trans (s20.trans (s21.trans (s22.trans s23)))
    have w1 := w1.same (s20.trans (s21.trans (s22.trans s23)))
    have w2 := w2.same (s21.trans (s22.trans s23))
    have w3 := w3.same (s22.trans s23)
    have w4 := w4.same s23
    clear s19 s20 s21 s22 s23
    -- due
    refine ⟨fun w H' => H' = H23 ∧ PosV K H23 (if lo = hi' then none else some (midN lo hi')) w, ?_, ?_⟩
    · refine ⟨_, rfl, _, rfl, pD lo, pD hi', pD_dp (TL u23), pD_dp (TH u23), pD_shaped lo, pD_shaped hi', _, rfl, ?_⟩
      rw [pD_eqv]
      refine ite2 (fun c => ?_) (fun c => ?_)
      · refine ⟨rfl, ?_⟩
        rw [if_pos (of_decide_eq_true c)]
        rfl
      · refine ⟨_, rfl, rfl, ?_⟩
        rw [if_neg (fun z => c (decide_eq_true z))]
        exact ⟨hf, rfl, .inl (.inl (u23 _ _ gm))⟩
    rintro k5 _ ⟨rfl, w5⟩
    refine ⟨_, rfl, ch, _, 0, _, rfl, rfl, TH u23, rfl, _, rfl, ch, _, 1, _, rfl, rfl, TH u23, rfl, _, _, rfl, rfl, .inl ⟨by decide, by decide⟩, hi'.1, 2 * hi'.2, ?_, kh.o0, Nat.mul_pos (by decide) kh.u0, by omega, by omega, fun H24 k6 s24 e24 => ?_⟩
    · show [V.int (hi'.1 : Int), V.int (2 * (hi'.2 : Int))] = [V.int (hi'.1 : Int), V.int ((2 * hi'.2 : Nat) : Int)]
      rw [Int.natCast_mul]
      rfl
    have u24 := u23.trans s24
    refine ⟨_, rfl, cl, _, 0, _, rfl, rfl, TL u24, rfl, _, rfl, cl, _, 1, _, rfl, rfl, TL u24, rfl, _, _, rfl, rfl, _, rfl, cl, _, 1, _, rfl, rfl, TL u24, rfl, (by show 2 ≤ sizeLine; decide), fun k7 nk7 => ?_⟩
    generalize hX : upd _ k7 _ = H25
    obtain ⟨s25, e25⟩ := new_at hX nk7
    clear hX
    refine ⟨(by show 2 ≤ sizeLine; decide), fun k8 nk8 => ?_⟩
    generalize hX : upd _ k8 _ = H26
    obtain ⟨s26, e26⟩ := new_at hX nk8
    clear hX
    refine ⟨(by show 4 ≤ sizeLine; decide), fun l5 nl5 => ?_⟩
    generalize hX : upd _ l5 _ = H27
    obtain ⟨s27, e27⟩ := new_at hX nl5
    clear hX
    have v24 := s25.trans (s26.trans s27)
    have v23 := s24.trans v24
    have z2 : PosV K H27 (behN none (some hi')) (.ref k6) := ⟨k6, rfl, .inl (.inl (v24 _ _ e24))⟩
    have z3 : PosV K H27 (behN (some lo) none) (.ref k7) := by
      refine ⟨k7, rfl, .inl (.inl ?_)⟩
      rw [show lowN (lo.1 + lo.2) lo.2 = (lo.1 + lo.2, lo.2) from low_next dl, (s26.trans s27) _ _ e25]
      show some (HO.tup [V.int ((lo.1 : Int) + (lo.2 : Int)), nV lo.2]) = some (HO.tup [V.int ((lo.1 + lo.2 : Nat) : Int), nV lo.2])
      rw [Int.natCast_add]
    have z4 : PosV K H27 (behN none none) (.ref k8) := ⟨k8, rfl, .inl (.inl (s27 _ _ e26))⟩
    refine ⟨_, rfl, _, rfl, _, _, rfl, eqv_list (.inl (.inl (v23 _ _ e23))) (.inl (.inl e27)) (by show 4 < sizeLine; decide) (.cons (eqv_posV (w1.same v23) (w5.same v23) _) (.cons (eqv_posV (w2.same v23) z2 _) (.cons (eqv_posV (w3.same v23) z3 _) (.cons (eqv_posV (w4.same v23) z4 _) .nil)))), fun H28 s28 => ⟨true, rfl, iteF ?_⟩⟩
    have x28 := v23.trans s28
    have u28 := u23.trans x28
    have w1 := w1.same x28
    have e28 := x28 _ _ e23
    clear z2 z3 z4 w2 w3 w4 w5 e24 e25 e26 e27 v24 v23 u24 u23 s24 s25 s26 s27 s28 x28 e23
    -- below
    refine ⟨fun σ' H' => H' = H28 ∧ σ' = [some (.ref a), some (.ref b), some (.int (0 + (i : Int))), some (.ref c1), y4, y5, y6, some (.ref hf), some (.ref l4), some (.ref l5), some (.ref cl), some (.ref ch), y12, y13, y14, y15, y16, y17, y18, y19], ?_, ?_⟩
    · refine ⟨_, rfl, _, rfl, pD lo, pD hi', pD_dp (TL u28), pD_dp (TH u28), pD_shaped lo, pD_shaped hi', _, rfl, ?_⟩
      rw [pD_eqv]
      cases hc : decide (lo = hi') with
      | true => exact iteF (iteF ⟨rfl, rfl⟩)
      | false =>
        have ne : lo ≠ hi' := of_decide_eq_false hc
        obtain ⟨lm1, lm2⟩ := less_mid kl.u0 kh.u0 (lt ne)
        obtain ⟨mb1, mb2⟩ := dl.midB dh
        have w1' : PosV K H28 (if lo = hi' then none else some (midN lo hi')) k1 := w1
        rw [if_neg ne] at w1'
        obtain ⟨cm, rfl, hm⟩ := w1'
        refine iteT ?_
        refine ⟨_, rfl, _, rfl, _, _, _, _, rfl, rfl, .inl (.inl e28), atI_nat (j := 0) rfl, cl, cm, lo, midN lo hi', rfl, TL u28, hm, bl1, bl2, mb1, mb2, true, (by rw [lm1]), iteF ?_⟩
        refine ⟨_, rfl, _, _, _, _, rfl, rfl, .inl (.inl e28), atI_nat (j := 0) rfl, _, rfl, cm, ch, midN lo hi', hi', rfl, hm, TH u28, mb1, mb2, bh1, bh2, true, (by rw [lm2]), iteF ?_⟩
        exact ⟨_, rfl, _, rfl, cl, cl, lo, lo, rfl, TL u28, TL u28, bl1, bl2, bl1, bl2, false, (by rw [less_irrefl]), iteF ⟨rfl, rfl⟩⟩
    rintro σ _ ⟨rfl, rfl⟩
    have gl := u28 _ _ gl
    have gh := u28 _ _ gh
    have gc := u28 _ _ gc
    have hb28 := hb18.same u28
    have x28 := u18.trans u28
    clear w1 e28 TL TH kl kh bl1 bl2 bh1 bh2 lt gm hb18 u18 u28 r18
    -- pairs
    refine ⟨_, rfl, b, 8, rfl, hb28, by decide, by decide, fun dn dn0 dn1 => ⟨dn, rfl, by omega, by omega, fun D nD => ?_⟩⟩
    refine lc_rel2 walk_range (fun i y H' => ∃ e : Ent, y = .ref e.a ∧ e.a ≠ D ∧ e.pa ≠ D ∧ e.ta ≠ D ∧ H' e.a = some (.tup [.ref e.pa, .ref e.ta]) ∧ H' e.pa = some (.tup (pV e.p)) ∧ H' e.ta = some (.tup [.str e.o, .int e.n]) ∧ Drawn' e.p ∧ PyData.strOk e.o = true ∧ e.n = (i : Int)) (by unfold sizeLine; omega) nD (fun _ _ => trivial) (fun i y H' H'' k ⟨e, h1, h2, h3, h4, h5, h6, h7, h8⟩ => ⟨e, h1, h2, h3, h4, k _ _ h2 h5, k _ _ h3 h6, k _ _ h4 h7, h8⟩) ?_ ?_
    · rintro k y H29 H30 R Rn hk s29 ⟨zs, eD⟩ ⟨rfl, rfl⟩ hy
      refine ⟨rfl, ?_⟩
      have hb29 := hb28.same s29
      refine ⟨_, rfl, _, rfl, _, rfl, _, rfl, _, rfl, b, rfl, hb29, fun H31 c4 p4 s31 e31 d4 _ => ?_⟩
      refine ⟨(by show 4 ≤ sizeLine; decide), fun l6 nl6 => ?_⟩
      generalize hX : upd _ l6 _ = H32
      obtain ⟨s32, e32⟩ := new_at hX nl6
      clear hX
      refine ⟨b, l6, _, rfl, hb29.same (s31.trans s32), .inl (.inl e32), (by show 0 < 4; decide), (by show 4 ≤ 1000000; decide), fun j v hv => ?_⟩
      have eD32 := s32 _ _ (s31 _ _ eD)
      have u32 := s29.trans (s31.trans s32)
      have hq : ∃ (c : Addr) (p : Nat × Nat), v = .ref c ∧ c ≠ D ∧ H32 c = some (.tup (pV p)) ∧ Drawn' p := by
        have mem := List.mem_of_getElem? hv
        simp only [List.mem_cons, List.not_mem_nil, or_false] at mem
        rcases mem with e | e | e | e
        · exact ⟨cl, lo, e, ne_of_none gl nD, u32 _ _ gl, dl⟩
        · exact ⟨ch, hi', e, ne_of_none gh nD, u32 _ _ gh, dh⟩
        · exact ⟨c1, p1, e, ne_of_none gc nD, u32 _ _ gc, d1⟩
        · exact ⟨c4, p4, e, ne_of (s32 _ _ e31) eD32 (by intro z; cases z), s32 _ _ e31, d4⟩
      obtain ⟨c5, p5, rfl, ne5, e5, d5⟩ := hq
      clear hv e32 e31
      refine ⟨_, rfl, (by show 3 ≤ sizeLine; decide), fun l7 nl7 => ?_⟩
      generalize hX : upd _ l7 _ = H33
      obtain ⟨s33, e33⟩ := new_at hX nl7
      clear hX
      refine ⟨b, l7, _, rfl, hb29.same (s31.trans (s32.trans s33)), .inl (.inl e33), (by show 0 < 3; decide), (by show 3 ≤ 1000000; decide), fun j v hv => ?_⟩
      have ho : ∃ o : Str, v = .str o ∧ PyData.strOk o = true := by
        have mem := List.mem_of_getElem? hv
        simp only [List.mem_cons, List.not_mem_nil, or_false] at mem
        rcases mem with e | e | e
        · exact ⟨_, e, by decide +kernel⟩
        · exact ⟨_, e, by decide +kernel⟩
        · exact ⟨_, e, by decide +kernel⟩
      obtain ⟨o, rfl, ok⟩ := ho
      clear hv e33
      refine ⟨_, rfl, (by show 2 ≤ sizeLine; decide), fun ta nta => ?_⟩
      generalize hX : upd _ ta _ = H34
      obtain ⟨s34, e34⟩ := new_at hX nta
      clear hX
      refine ⟨(by show 2 ≤ sizeLine; decide), fun te nte => ?_⟩
      generalize hX : upd _ te _ = H35
      obtain ⟨s35, e35⟩ := new_at hX nte
      clear hX
      have eD35 := s35 _ _ (s34 _ _ (s33 _ _ eD32))
      refine hy _ _ (s31.trans (s32.trans (s33.trans (s34.trans s35)))) ⟨⟨te, c5, ta, p5, o, 0 + (k : Int)⟩, rfl, ne_of e35 eD35 (by intro z; cases z), ne5, ne_of (s35 _ _ e34) eD35 (by intro z; cases z), e35, s35 _ _ (s34 _ _ (s33 _ _ e5)), s35 _ _ e34, d5, ok, (by show 0 + (k : Int) = (k : Int); omega)⟩
    rintro H29 ys s29 ly oks e29
    obtain ⟨es, rfl, he⟩ := ents_of oks
    rw [List.length_map] at ly
    have les : es.length ≤ 8 := by omega
    have hes : ∀ e ∈ es, EntAt K H29 e ∧ Drawn' e.p ∧ PyData.strOk e.o = true := fun e m => by
      obtain ⟨j, hj, ej⟩ := List.getElem_of_mem m
      obtain ⟨_, _, _, h1, h2, h3, h4, h5, _⟩ := he j e (by rw [List.getElem?_eq_getElem hj, ej])
      exact ⟨⟨.inl (.inl h1), .inl (.inl h2), .inl (.inl h3)⟩, h4, h5⟩
    have hdi : ∀ e ∈ es, ∀ f ∈ es, e.n = f.n → e = f := fun e m f m' en => by
      obtain ⟨j, hj, ej⟩ := List.getElem_of_mem m
      obtain ⟨k, hk, ek⟩ := List.getElem_of_mem m'
      have h1 := he j e (by rw [List.getElem?_eq_getElem hj, ej])
      have h2 := he k f (by rw [List.getElem?_eq_getElem hk, ek])
      have : j = k := by
        have := h1.2.2.2.2.2.2.2.2
        have := h2.2.2.2.2.2.2.2.2
        omega
      subst this
      exact ej.symm.trans ek
    clear he oks nD
    -- mixed
    refine ⟨_, rfl, _, rfl, b, D, _, rfl, hb28.same s29, .inl (.inl e29), (by rw [List.length_map]; omega), fun H30 c6 ys s30 nc6 e30 pm => ?_⟩
    obtain ⟨fs, rfl, pm2⟩ := perm_map_inv pm es rfl
    have lfs : fs.length ≤ 8 := by rw [pm2.length_eq]; exact les
    have hfs : ∀ e ∈ fs, EntAt K H30 e ∧ Drawn' e.p ∧ PyData.strOk e.o = true := fun e m => by
      obtain ⟨h1, h2⟩ := hes e (pm2.mem_iff.mp m)
      exact ⟨h1.same s30, h2⟩
    have OK : EsOk fs := ⟨fun e m => Drawn'.entOk (hfs e m).2.1, fun e m => (hfs e m).2.1.co, fun e m f m' => hdi e (pm2.mem_iff.mp m) f (pm2.mem_iff.mp m')⟩
    have u30 := x28.trans (s29.trans s30)
    clear hes hdi les ly pm pm2 e29 x28 hb28
    -- held, rest, due
    refine ⟨_, rfl, c6, _, rfl, .inl (.inl (.inl e30)), fun l8 nl8 => ?_⟩
    generalize hX : upd _ l8 _ = H31
    obtain ⟨s31, e31⟩ := new_at hX nl8
    clear hX
    refine ⟨_, rfl, c6, _, rfl, .inl (.inl (.inl (s31 _ _ e30))), fun rs nrs => ?_⟩
    generalize hX : upd _ rs _ = H32
    obtain ⟨s32, e32⟩ := new_at hX nrs
    clear hX
    refine ⟨(by show 0 ≤ sizeLine; decide), fun du ndu => ?_⟩
    generalize hX : upd _ du _ = H33
    obtain ⟨s33, e33⟩ := new_at hX ndu
    clear hX
    refine ⟨_, _, _, rfl, ?_⟩
    have rd : rs ≠ du := ne_of_none e32 ndu
    have e30 := s31 _ _ e30
    have u31 := u30.trans s31
    have hf31 : ∀ e ∈ fs, EntAt K H31 e := fun e m => (hfs e m).1.same s31
    have hok : ∀ e ∈ fs, Drawn' e.p ∧ PyData.strOk e.o = true := fun e m => (hfs e m).2
    have e32 := s33 _ _ e32
    have u34 : Same H31 H33 := s32.trans s33
    -- the law's search
    refine ⟨_, rfl, c6, _, rfl, .inl (.inl (.inl (u34 _ _ e30))), _, rfl, (by rw [List.length_map]; omega), (by rw [List.length_map]; omega), ?_⟩
    rw [Int.toNat_natCast, List.length_map]
    refine for_range (lo := 0) (n := fs.length) (fun k σ H' => ∃ z13 z16 z17, ∃ (R : List Ent), σ = [some (.ref a), some (.ref b), some (.int (0 + (i : Int))), some (.ref c1), y4, y5, y6, some (.ref hf), some (.ref l4), some (.ref du), some (.ref cl), some (.ref ch), some (.ref c6), z13, some (.ref l8), some (.ref rs), z16, z17, y18, y19] ∧ Same H31 H' ∧ H' rs = some (.lst (R.map fun e => V.ref e.a)) ∧ H' du = some (.lst (((ordE fs).take k).map fun e => V.ref e.ta)) ∧ R.Perm ((ordE fs).drop k)) ?_ ?_ ?_
    · exact ⟨_, _, _, fs, rfl, u34, e32, e33, (by rw [List.drop_zero]; exact (List.mergeSort_perm fs _).symm)⟩
    · rintro k σ H35 hk ⟨z13, z16, z17, R, rfl, s35, eR, eU, pR⟩
      have lo' : (ordE fs).length = fs.length := List.length_mergeSort _
      have lR : R.length = fs.length - k := by rw [pR.length_eq, List.length_drop, lo']
      have R0 : 0 < R.length := by omega
      obtain ⟨x, hx⟩ : ∃ x, R[0]? = some x := ⟨_, List.getElem?_eq_getElem R0⟩
      have inR : ∀ e ∈ R, e ∈ fs := fun e m => (List.mergeSort_perm fs _).mem_iff.mp (List.mem_of_mem_drop (pR.mem_iff.mp m))
      obtain ⟨nx, nm⟩ := ord_next OK pR hx
      have xm := inR x (List.mem_of_getElem? hx)
      have nRs : H31 rs = none := nrs
      have nDu : H31 du = none := by
        cases z : H31 du with
        | none => rfl
        | some o =>
          have := s32 _ _ z
          rw [ndu] at this
          cases this
      refine ⟨_, rfl, _, _, _, _, rfl, rfl, .inl (.inl eR), atI_nat (j := 0) (by rw [List.getElem?_map, hx] <;> rfl), ?_⟩
      have hat : ∀ e ∈ fs, EntAt K H35 e := fun e m => (hf31 e m).same s35
      refine ⟨_, rfl, rs, rfl, ⟨_, .inl (.inl eR)⟩, ?_⟩
      refine for_list (K := K) (a := rs) (xs := R.map fun e => V.ref e.a) (fun j σ H' => ∃ z17, σ = [some (.ref a), some (.ref b), some (.int (0 + (i : Int))), some (.ref c1), y4, y5, y6, some (.ref hf), some (.ref l4), some (.ref du), some (.ref cl), some (.ref ch), some (.ref c6), some (.int (0 + (k : Int))), some (.ref l8), some (.ref rs), some (.ref (leastE x (R.take j)).a), z17, y18, y19] ∧ H' = H35) ⟨_, rfl, rfl⟩ (fun j σ H' _ ⟨_, _, e⟩ => by rw [e]; exact .inl (.inl eR)) ?_ ?_
      · rintro j v σ H' hv ⟨z17, rfl, rfl⟩
        rw [List.getElem?_map] at hv
        obtain ⟨e, he, rfl⟩ := Option.map_eq_some_iff.mp hv
        have em := inR e (List.mem_of_getElem? he)
        have sn := least_snoc (x := x) he
        have mm : leastE x (R.take j) ∈ fs := by
          rcases leastE_mem (R.take j) x with w | w
          · rw [w]; exact xm
          · exact inR _ (List.mem_of_mem_take w)
        rw [show (leastE x (R.take (j + 1))) = _ from sn]
        generalize leastE x (R.take j) = m at mm
        obtain ⟨q1, q2, q3⟩ := hat e em
        obtain ⟨r1, r2, r3⟩ := hat m mm
        have ke := (hok e em).1.ok
        have km := (hok m mm).1.ok
        refine ⟨_, rfl, e.a, _, 0, _, rfl, rfl, q1, rfl, _, rfl, m.a, _, 0, _, rfl, rfl, r1, rfl, e.pa, m.pa, e.p, m.p, rfl, q2, r2, ke.ob, ke.ub, km.ob, km.ub, _, rfl, ?_⟩
        cases h1 : lessP e.p m.p with
        | true =>
          have lt : ltE e m = true := by unfold ltE; rw [h1, Bool.true_or]
          rw [if_pos lt]
          exact iteT (iteT ⟨_, rfl, _, rfl, rfl⟩)
        | false =>
          refine iteF ⟨_, rfl, e.a, _, 0, _, rfl, rfl, q1, rfl, _, rfl, m.a, _, 0, _, rfl, rfl, r1, rfl, pD e.p, pD m.p, pD_dp q2, pD_dp r2, pD_shaped _, pD_shaped _, _, rfl, ?_⟩
          rw [pD_eqv]
          cases h2 : decide (e.p = m.p) with
          | false =>
            have lt : ltE e m = false := by unfold ltE; rw [h1, h2, Bool.false_and, Bool.or_false]
            rw [if_neg (show ¬ ltE e m = true by rw [lt]; exact Bool.false_ne_true)]
            exact iteF (iteF ⟨_, rfl, rfl⟩)
          | true =>
            refine iteT ⟨_, rfl, e.a, _, 1, _, rfl, rfl, q1, rfl, _, rfl, m.a, _, 1, _, rfl, rfl, r1, rfl, thD e, thD m, .tup q3 (.cons (.str _) (.cons (.int _) .nil)), .tup r3 (.cons (.str _) (.cons (.int _) .nil)), thD_alike e m, (fun z => by cases z), thD_depth e, _, rfl, ?_⟩
            cases h3 : PySem.W.dataLt (thD e) (thD m) with
            | true =>
              have lt : ltE e m = true := by unfold ltE; rw [h1, h2, h3]; rfl
              rw [if_pos lt]
              exact iteT ⟨_, rfl, _, rfl, rfl⟩
            | false =>
              have lt : ltE e m = false := by unfold ltE; rw [h1, h2, h3]; rfl
              rw [if_neg (show ¬ ltE e m = true by rw [lt]; exact Bool.false_ne_true)]
              exact iteF ⟨_, rfl, rfl⟩
      rintro σ H' ⟨z17, rfl, rfl⟩
      rw [List.length_map, List.take_length]
      generalize leastE x R = m at nx nm
      have mm := inR m nm
      obtain ⟨r1, r2, r3⟩ := hat m mm
      refine ⟨_, rfl, .inl ⟨rfl, _, .inl (.inl eU)⟩, _, rfl, m.a, _, 1, _, rfl, rfl, r1, rfl, du, _, _, rfl, rfl, eU, (by rw [List.length_map, List.length_take]; unfold sizeLine; omega), ?_⟩
      have eR2 : upd H' du (.lst (((ordE fs).take k).map (fun e => V.ref e.ta) ++ [.ref m.ta])) rs = some (.lst (R.map fun e => V.ref e.a)) := by
        rw [upd_ne rd]
        exact eR
      obtain ⟨j, hj, ej⟩ := place_of nm (fun e m f m' => OK.di e (inR e m) f (inR f m'))
      refine ⟨_, rfl, .inl ⟨rfl, _, .inl (.inl eR2)⟩, _, rfl, rs, _, R.map enD, _, enD m, j, rfl, rfl, eR2, enD_dps (fun e m => (hat e (inR e m)).over eU), enD_dp ((hat m mm).over eU), enD_plains R, enD_plain m, enD_depth m, hj, ?_⟩
      refine ⟨_, _, _, R.eraseIdx j, rfl, same_over (same_over s35 nDu _) nRs _, ?_, ?_, ?_⟩
      · rw [upd_same, map_erase]
      · rw [upd_ne (fun z => rd z.symm), upd_same, take_snoc nx, List.map_append]
        rfl
      · have p1 := (perm_erase ej).symm.trans pR
        have kl : k < (ordE fs).length := by omega
        rw [List.drop_eq_getElem_cons kl] at p1
        have : (ordE fs)[k] = m := by
          rw [List.getElem?_eq_getElem kl] at nx
          exact Option.some.inj nx
        rw [this] at p1
        exact p1.cons_inv
    rintro σ H35 ⟨z13, z16, z17, R, rfl, s35, eR, eU, pR⟩
    rw [List.take_of_length_le (by rw [show (ordE fs).length = fs.length from List.length_mergeSort _]; exact Nat.le_refl _)] at eU
    have hat : ∀ e ∈ fs, EntAt K H35 e ∧ EntOk e := fun e m => ⟨(hf31 e m).same s35, (hok e m).1.entOk⟩
    have e30 := s35 _ _ e30
    have e31 := s35 _ _ e31
    refine ⟨_, rfl, c6, fs, rfl, .inl (.inl e30), (by omega), hat, fun H36 o1 s36 no1 eo1 => ?_⟩
    refine ⟨_, rfl, c6, _, rfl, .inl ⟨.inl (.inl (s36 _ _ e30)), fun tp ntp => ?_⟩⟩
    generalize hX : upd _ tp _ = H37
    obtain ⟨s37, e37⟩ := new_at hX ntp
    clear hX
    refine ⟨rfl, rfl, tp, fs, rfl, .inl (.inl e37), (by omega), (fun e m => ⟨(hat e m).1.same (s36.trans s37), (hat e m).2⟩), fun H38 o2 s38 no2 eo2 => ?_⟩
    refine ⟨(by show 2 ≤ sizeLine; decide), fun l9 nl9 => ?_⟩
    generalize hX : upd _ l9 _ = H39
    obtain ⟨s39, e39⟩ := new_at hX nl9
    clear hX
    refine ⟨_, rfl, _, rfl, (by show 2 ≤ sizeLine; decide), fun l10 nl10 => ?_⟩
    generalize hX : upd _ l10 _ = H40
    obtain ⟨s40, e40⟩ := new_at hX nl10
    clear hX
    have v37 := s38.trans (s39.trans s40)
    have v35 := s36.trans (s37.trans v37)
    have hatO : ∀ e ∈ ordE fs, EntAt K H40 e := fun e m => (hat e ((List.mergeSort_perm fs _).mem_iff.mp m)).1.same v35
    have lO : (ordE fs).length < sizeLine := by
      rw [show (ordE fs).length = fs.length from List.length_mergeSort _]
      unfold sizeLine
      omega
    refine ⟨_, _, rfl, eqv_list (.inl (.inl (s40 _ _ e39))) (.inl (.inl e40)) (by show 2 < sizeLine; decide) (.cons (eqv_things (.inl (.inl ((s37.trans v37) _ _ eo1))) (.inl (.inl (v35 _ _ eU))) lO hatO 0) (.cons (eqv_things (.inl (.inl ((s39.trans s40) _ _ eo2))) (.inl (.inl (v35 _ _ eU))) lO hatO 0) .nil)), fun H41 s41 => ⟨true, rfl, iteF ?_⟩⟩
    have x35 := v35.trans s41
    have sh := ents_shaped (fun e m => (hok e m).2)
    refine ⟨_, rfl, _, rfl, .list (fs.map enD), .list (fs.map enD), .lst (.inl (.inl (x35 _ _ e30))) (enD_dps fun e m => (hat e m).1.same x35), .lst (.inl (.inl (x35 _ _ e31))) (enD_dps fun e m => (hat e m).1.same x35), sh, sh, _, rfl, ?_⟩
    rw [ents_self]
    refine iteF ?_
    exact ⟨_, _, _, _, _, _, _, _, _, _, _, _, _, _, _, _, _, _, rfl, u31.trans (s35.trans x35)⟩
  · rintro σ H2 ⟨y2, y3, y4, y5, y6, y7, y8, y9, y10, y11, y12, y13, y14, y15, y16, y17, y18, y19, rfl, s2⟩
    have hb2 := hb.same s2
    refine ⟨(by show 2 ≤ sizeLine; decide), fun c1 nc1 => ?_⟩
    generalize hX : upd _ c1 _ = H3
    obtain ⟨s3, e3⟩ := new_at hX nc1
    clear hX
    refine ⟨(by show 0 ≤ sizeLine; decide), fun sp nsp => ?_⟩
    generalize hX : upd _ sp _ = H4
    obtain ⟨s4, e4⟩ := new_at hX nsp
    clear hX
    refine ⟨_, _, rfl, ?_⟩
    have hb3 := hb2.same s3
    refine ⟨_, rfl, b, 30, rfl, hb3.same s4, by decide, by decide, fun d d0 d1 => ⟨_, _, rfl, rfl, _, rfl, by omega, by omega, ?_⟩⟩
    obtain ⟨n, en, n1⟩ : ∃ n : Nat, 20 + d = (n : Int) ∧ n ≤ 49 := ⟨(20 + d).toNat, by omega, by omega⟩
    rw [en, Int.toNat_natCast]
    refine for_range (lo := 0) (n := n) (fun k σ H' => ∃ y13, ∃ (c : Addr) (p : Nat × Nat) (es : List Ent), σ = [some (.ref a), some (.ref b), y2, y3, y4, y5, y6, y7, y8, y9, y10, y11, y12, y13, y14, y15, y16, y17, some (.ref c), some (.ref sp)] ∧ Same H3 H' ∧ SqT K H' c (pV p) ∧ HalfOk k p ∧ H' sp = some (.lst (es.map fun e => V.ref e.a)) ∧ es.length = k ∧ ∀ (j : Nat) (e : Ent), es[j]? = some e → EntAt K H' e ∧ EntOk e ∧ e.o = Str.ofString "" ∧ e.n = (j : Int)) ?_ ?_ ?_
    · refine ⟨_, c1, (1, 1), [], rfl, s4, .inl (.inl (s4 _ _ e3)), ⟨by decide, by decide, by decide⟩, e4, rfl, fun j e h => by simp at h⟩
    · rintro k σ H5 hk ⟨y13, c, p, es, rfl, s5, tc, hp, eS, les, hes⟩
      have kp := hp.ok (by omega)
      have kpo := kp.ob
      have kpu := kp.ub
      have ub := hp.ub (by omega)
      refine ⟨fun v H' => Same H5 H' ∧ ∃ c' p', v = .ref c' ∧ SqT K H' c' (pV p') ∧ HalfOk (k + 1) p', ?_, ?_⟩
      · refine ⟨_, rfl, _, _, rfl, rfl, (by show (2 : Int) ≠ 0; decide), rfl, _, rfl, ?_⟩
        refine ite2 (fun _ => ?_) (fun _ => ?_)
        · refine ⟨_, rfl, .non, _, none, some p, rfl, rfl, ⟨c, rfl, tc⟩, ⟨(fun p e => by cases e), (fun p e => by cases e; exact kp), fun p q e1 e2 => by cases e1⟩, fun H6 u s6 w => ?_⟩
          obtain ⟨c', rfl, hc'⟩ := (show ∃ a, u = .ref a ∧ SqT K H6 a (pV (lowN p.1 (2 * p.2))) from w)
          exact ⟨s6, c', _, rfl, hc', hp.half⟩
        · refine ⟨_, rfl, (by show 2 ≤ sizeLine; decide), fun t nt => ?_⟩
          generalize hX : upd _ t _ = H6
          obtain ⟨s6, e6⟩ := new_at hX nt
          clear hX
          refine ⟨c, t, p, (1, 1), rfl, Same.seqT s6 tc, .inl (.inl e6), kp, ⟨by decide, by decide, by decide, by decide⟩, hp.midOk (by omega), fun H7 c' s7 e7 => ?_⟩
          exact ⟨s6.trans s7, c', _, rfl, .inl (.inl e7), hp.toOne⟩
      rintro v H6 ⟨s6, c', p', rfl, tc', hp'⟩
      have eS := s6 _ _ eS
      refine ⟨_, rfl, .inl ⟨rfl, _, .inl (.inl eS)⟩, ?_⟩
      refine ⟨_, rfl, _, rfl, (by show 2 ≤ sizeLine; decide), fun ta nta => ?_⟩
      generalize hX : upd _ ta _ = H7
      obtain ⟨s7, e7⟩ := new_at hX nta
      clear hX
      refine ⟨(by show 2 ≤ sizeLine; decide), fun te nte => ?_⟩
      generalize hX : upd _ te _ = H8
      obtain ⟨s8, e8⟩ := new_at hX nte
      clear hX
      have eS := s8 _ _ (s7 _ _ eS)
      refine ⟨sp, _, _, rfl, rfl, eS, (by rw [List.length_map]; unfold sizeLine; omega), ?_⟩
      have u5 := s6.trans (s7.trans s8)
      have kp' := hp'.ok (by omega)
      refine ⟨_, c', p', es ++ [⟨te, c', ta, p', Str.ofString "", 0 + (k : Int)⟩], rfl, same_over (s5.trans u5) nsp _, sqT_over eS (Same.seqT (s7.trans s8) tc'), hp', (by rw [upd_same, List.map_append] <;> rfl), (by rw [List.length_append, les] <;> rfl), fun j e hj => ?_⟩
      by_cases hl : j < es.length
      · rw [List.getElem?_append_left hl] at hj
        obtain ⟨h1, h2⟩ := hes j e hj
        exact ⟨(h1.same u5).over eS, h2⟩
      · rw [List.getElem?_append_right (by omega)] at hj
        have j0 : j = es.length := by
          have := (List.getElem?_eq_some_iff.mp hj).1
          rw [List.length_singleton] at this
          omega
        subst j0
        rw [Nat.sub_self] at hj
        obtain rfl := Option.some.inj hj
        refine ⟨EntAt.over eS ⟨.inl (.inl e8), Same.seqT (s7.trans s8) tc', .inl (.inl (s8 _ _ e7))⟩, ⟨hp'.u0, Nat.dvd_trans hp'.ud (Nat.pow_dvd_pow 2 (by omega)), kp'.ob⟩, rfl, ?_⟩
        show 0 + (k : Int) = ((es.length : Nat) : Int)
        omega
    rintro σ H5 ⟨y13, c, p, es, rfl, s5, tc, hp, eS, les, hes⟩
    have hat : ∀ e ∈ es, EntAt K H5 e ∧ EntOk e := fun e m => by
      obtain ⟨j, hj, ej⟩ := List.getElem_of_mem m
      obtain ⟨h1, h2, _⟩ := hes j e (by rw [List.getElem?_eq_getElem hj, ej])
      exact ⟨h1, h2⟩
    have up : es.Pairwise fun e f => e.o = f.o ∧ e.n < f.n := by
      refine List.pairwise_iff_getElem.mpr fun i j hi hj hij => ?_
      obtain ⟨_, _, h1, h2⟩ := hes i _ (List.getElem?_eq_getElem hi)
      obtain ⟨_, _, h3, h4⟩ := hes j _ (List.getElem?_eq_getElem hj)
      exact ⟨h1.trans h3.symm, by omega⟩
    have pO : (ordE es).Perm es := List.mergeSort_perm es _
    refine ⟨_, rfl, sp, es, rfl, .inl (.inl eS), (by omega), hat, fun H6 o1 s6 no1 eo1 => ?_⟩
    have hatO : ∀ e ∈ ordE es, EntAt K H6 e := fun e m => (hat e (pO.mem_iff.mp m)).1.same s6
    refine ⟨o1, _, (ordE es).map thD, rfl, .inl (.inl eo1), thD_dps hatO, ?_, ?_, ?_, fun so nso => ?_⟩
    · intro d hd d' hd'
      obtain ⟨e, _, rfl⟩ := List.mem_map.mp hd
      obtain ⟨f, _, rfl⟩ := List.mem_map.mp hd'
      exact thD_alike e f
    · refine .inl fun d hd => ?_
      obtain ⟨e, _, rfl⟩ := List.mem_map.mp hd
      exact ⟨_, _, rfl⟩
    · intro d hd
      obtain ⟨e, _, rfl⟩ := List.mem_map.mp hd
      exact thD_depth e
    rw [srt_things pO up]
    generalize hX : upd _ so _ = H7
    obtain ⟨s7, e7⟩ := new_at hX nso
    clear hX
    have eS7 := s7 _ _ (s6 _ _ eS)
    refine ⟨_, rfl, sp, _, rfl, .inl (.inl (.inl eS7)), _, rfl, (by rw [List.length_map]; omega), (by rw [List.length_map]; omega), fun D nD => ?_⟩
    rw [Int.toNat_natCast, List.length_map]
    refine lc_rel2 walk_range (fun i y H' => ∃ t : Addr, y = .ref t ∧ t ≠ D ∧ H' t = some (.tup [.str (Str.ofString ""), .int (i : Int)])) (by unfold sizeLine; omega) nD (fun _ _ => trivial) (fun i y H' H'' k ⟨t, h1, h2, h3⟩ => ⟨t, h1, h2, k _ _ h2 h3⟩) ?_ ?_
    · rintro k y H8 H9 R Rn hk s8 ⟨zs, eD⟩ ⟨rfl, rfl⟩ hy
      refine ⟨rfl, ?_⟩
      refine ⟨_, rfl, (by show 2 ≤ sizeLine; decide), fun t nt => ?_⟩
      generalize hX : upd _ t _ = H10
      obtain ⟨s10, e10⟩ := new_at hX nt
      clear hX
      refine hy _ _ s10 ⟨t, rfl, ne_of e10 (s10 _ _ eD) (by intro z; cases z), ?_⟩
      rw [e10]
      show some (HO.tup [V.str _, V.int (0 + (k : Int))]) = _
      rw [Int.zero_add]
    rintro H8 ys s8 ly oks e8
    have s68 := s6.trans (s7.trans s8)
    refine ⟨_, _, rfl, .inr (.inl ⟨so, D, _, _, rfl, rfl, .inl (.inl (s8 _ _ e7)), .inl (.inl e8), (by rw [List.length_map, ly]), (by rw [List.length_map]; unfold sizeLine; omega), fun j x y hx hy => ?_⟩), fun H9 s9 => ⟨true, rfl, iteT ?_⟩⟩
    · rw [List.getElem?_map] at hx
      obtain ⟨e, he, rfl⟩ := Option.map_eq_some_iff.mp hx
      obtain ⟨⟨_, _, h1⟩, _, h2, h3⟩ := hes j e he
      obtain ⟨t, rfl, _, h4⟩ := oks j y hy
      refine eqv_tup (Same.seqT s68 h1) (.inl (.inl h4)) (by show 2 < sizeLine; decide) ?_
      rw [h2, h3]
      exact .cons (eqv_scal rfl) (.cons (eqv_scal rfl) .nil)
    refine ⟨(by show 0 ≤ sizeLine; decide), fun l nl => ?_⟩
    generalize hX : upd _ l _ = H10
    obtain ⟨s10, e10⟩ := new_at hX nl
    clear hX
    refine ⟨l, [], rfl, .inl (.inl e10), (by show 0 ≤ 1000; decide), (fun e m => by cases m), fun H11 o2 s11 no2 eo2 => ?_⟩
    refine ⟨(by show 0 ≤ sizeLine; decide), fun l2 nl2 => ?_⟩
    generalize hX : upd _ l2 _ = H12
    obtain ⟨s12, e12⟩ := new_at hX nl2
    clear hX
    have eo2 : H11 o2 = some (.lst []) := by
      have z : ordE [] = [] := by unfold ordE; simp
      rw [eo2, z]
      rfl
    refine ⟨_, _, rfl, eqv_list (.inl (.inl (s12 _ _ eo2))) (.inl (.inl e12)) (by show 0 < sizeLine; decide) .nil, fun H13 _ => q H13⟩

end
end Kx
/-! part K03k -/
namespace Kx
open PySem PySem.Spec PyProof.Rows L2 My
theorem all_mk {l : PySem.W.OpenLaw} {w : World} {K : PySem.W.Frag} {h : Heap} {mg : Str → Option Value} {fa : Addr} (X : K.In h) (G : h.Ns mainGlobals mg) (hfa : mg "law" = some (.ref fa))
    {f0 : Addr} {od0 an0 : Option Addr} {sl0 : Array (Option Value)} {oc0 kV0 dc0 pm0 cd0 ct0 : Value}
    {f1 : Addr} {od1 an1 : Option Addr} {sl1 : Array (Option Value)} {oc1 kV1 dc1 pm1 cd1 ct1 : Value}
    {f2 : Addr} {od2 an2 : Option Addr} {sl2 : Array (Option Value)} {oc2 kV2 dc2 pm2 cd2 ct2 : Value}
    {f3 : Addr} {od3 an3 : Option Addr} {sl3 : Array (Option Value)} {oc3 kV3 dc3 pm3 cd3 ct3 : Value}
    {f4 : Addr} {od4 an4 : Option Addr} {sl4 : Array (Option Value)} {oc4 kV4 dc4 pm4 cd4 ct4 : Value}
    {f5 : Addr} {od5 an5 : Option Addr} {sl5 : Array (Option Value)} {oc5 kV5 dc5 pm5 cd5 ct5 : Value}
    {f6 : Addr} {od6 an6 : Option Addr} {sl6 : Array (Option Value)} {oc6 kV6 dc6 pm6 cd6 ct6 : Value}
    {f7 : Addr} {od7 an7 : Option Addr} {sl7 : Array (Option Value)} {oc7 kV7 dc7 pm7 cd7 ct7 : Value}
    {f8 : Addr} {od8 an8 : Option Addr} {sl8 : Array (Option Value)} {oc8 kV8 dc8 pm8 cd8 ct8 : Value}
    {f9 : Addr} {od9 an9 : Option Addr} {sl9 : Array (Option Value)} {oc9 kV9 dc9 pm9 cd9 ct9 : Value}
    {f10 : Addr} {od10 an10 : Option Addr} {sl10 : Array (Option Value)} {oc10 kV10 dc10 pm10 cd10 ct10 : Value}
    {f11 : Addr} {od11 an11 : Option Addr} {sl11 : Array (Option Value)} {oc11 kV11 dc11 pm11 cd11 ct11 : Value}
    {f12 : Addr} {od12 an12 : Option Addr} {sl12 : Array (Option Value)} {oc12 kV12 dc12 pm12 cd12 ct12 : Value}
    {f13 : Addr} {od13 an13 : Option Addr} {sl13 : Array (Option Value)} {oc13 kV13 dc13 pm13 cd13 ct13 : Value}
    {f14 : Addr} {od14 an14 : Option Addr} {sl14 : Array (Option Value)} {oc14 kV14 dc14 pm14 cd14 ct14 : Value}
    (a0 : PySem.W.nsIn K mainGlobals "lowest" = some (some (.ref f0))) (l0 : K.lookup f0 = some ⟨oc0, od0, .func (PySem.W.fnOf "lowest" "lowest" (defArgs s_lowest) (defBody s_lowest) (defScope s_lowest) .none kV0 dc0 pm0 an0 cd0 ct0), sl0⟩) (c0 : PySem.W.codeIn K cd0 "lowest" = true) (k0 : PySem.W.keepIn K (.ref f0) = true)
    (a1 : PySem.W.nsIn K mainGlobals "middle" = some (some (.ref f1))) (l1 : K.lookup f1 = some ⟨oc1, od1, .func (PySem.W.fnOf "middle" "middle" (defArgs s_middle) (defBody s_middle) (defScope s_middle) .none kV1 dc1 pm1 an1 cd1 ct1), sl1⟩) (c1 : PySem.W.codeIn K cd1 "middle" = true) (k1 : PySem.W.keepIn K (.ref f1) = true)
    (a2 : PySem.W.nsIn K mainGlobals "is_below" = some (some (.ref f2))) (l2 : K.lookup f2 = some ⟨oc2, od2, .func (PySem.W.fnOf "is_below" "is_below" (defArgs s_is_below) (defBody s_is_below) (defScope s_is_below) .none kV2 dc2 pm2 an2 cd2 ct2), sl2⟩) (c2 : PySem.W.codeIn K cd2 "is_below" = true) (k2 : PySem.W.keepIn K (.ref f2) = true)
    (a3 : PySem.W.nsIn K mainGlobals "position_behind" = some (some (.ref f3))) (l3 : K.lookup f3 = some ⟨oc3, od3, .func (PySem.W.fnOf "position_behind" "position_behind" (defArgs s_position_behind) (defBody s_position_behind) (defScope s_position_behind) .none kV3 dc3 pm3 an3 cd3 ct3), sl3⟩) (c3 : PySem.W.codeIn K cd3 "position_behind" = true) (k3 : PySem.W.keepIn K (.ref f3) = true)
    (a4 : PySem.W.nsIn K mainGlobals "ordered" = some (some (.ref f4))) (l4 : K.lookup f4 = some ⟨oc4, od4, .func (PySem.W.fnOf "ordered" "ordered" (defArgs s_ordered) (defBody s_ordered) (defScope s_ordered) .none kV4 dc4 pm4 an4 cd4 ct4), sl4⟩) (c4 : PySem.W.codeIn K cd4 "ordered" = true) (k4 : PySem.W.keepIn K (.ref f4) = true)
    (a5 : PySem.W.nsIn K mainGlobals "_law_bag" = some (some (.ref f5))) (l5 : K.lookup f5 = some ⟨oc5, od5, .func (PySem.W.fnOf "_law_bag" "_law_bag" (defArgs s__law_bag) (defBody s__law_bag) (defScope s__law_bag) .none kV5 dc5 pm5 an5 cd5 ct5), sl5⟩) (c5 : PySem.W.codeIn K cd5 "_law_bag" = true) (k5 : PySem.W.keepIn K (.ref f5) = true)
    (a6 : PySem.W.nsIn K mainGlobals "_law_draw" = some (some (.ref f6))) (l6 : K.lookup f6 = some ⟨oc6, od6, .func (PySem.W.fnOf "_law_draw" "_law_draw" (defArgs s__law_draw) (defBody s__law_draw) (defScope s__law_draw) .none kV6 dc6 pm6 an6 cd6 ct6), sl6⟩) (c6 : PySem.W.codeIn K cd6 "_law_draw" = true) (k6 : PySem.W.keepIn K (.ref f6) = true)
    (a7 : PySem.W.nsIn K mainGlobals "_law_of" = some (some (.ref f7))) (l7 : K.lookup f7 = some ⟨oc7, od7, .func (PySem.W.fnOf "_law_of" "_law_of" (defArgs s__law_of) (defBody s__law_of) (defScope s__law_of) .none kV7 dc7 pm7 an7 cd7 ct7), sl7⟩) (c7 : PySem.W.codeIn K cd7 "_law_of" = true) (k7 : PySem.W.keepIn K (.ref f7) = true)
    (a8 : PySem.W.nsIn K mainGlobals "_law_mixed" = some (some (.ref f8))) (l8 : K.lookup f8 = some ⟨oc8, od8, .func (PySem.W.fnOf "_law_mixed" "_law_mixed" (defArgs s__law_mixed) (defBody s__law_mixed) (defScope s__law_mixed) .none kV8 dc8 pm8 an8 cd8 ct8), sl8⟩) (c8 : PySem.W.codeIn K cd8 "_law_mixed" = true) (k8 : PySem.W.keepIn K (.ref f8) = true)
    (a9 : PySem.W.nsIn K mainGlobals "_law_same" = some (some (.ref f9))) (l9 : K.lookup f9 = some ⟨oc9, od9, .func (PySem.W.fnOf "_law_same" "_law_same" (defArgs s__law_same) (defBody s__law_same) (defScope s__law_same) .none kV9 dc9 pm9 an9 cd9 ct9), sl9⟩) (c9 : PySem.W.codeIn K cd9 "_law_same" = true) (k9 : PySem.W.keepIn K (.ref f9) = true)
    (a10 : PySem.W.nsIn K mainGlobals "_law_divisor" = some (some (.ref f10))) (l10 : K.lookup f10 = some ⟨oc10, od10, .func (PySem.W.fnOf "_law_divisor" "_law_divisor" (defArgs s__law_divisor) (defBody s__law_divisor) (defScope s__law_divisor) .none kV10 dc10 pm10 an10 cd10 ct10), sl10⟩) (c10 : PySem.W.codeIn K cd10 "_law_divisor" = true) (k10 : PySem.W.keepIn K (.ref f10) = true)
    (a11 : PySem.W.nsIn K mainGlobals "_law_low" = some (some (.ref f11))) (l11 : K.lookup f11 = some ⟨oc11, od11, .func (PySem.W.fnOf "_law_low" "_law_low" (defArgs s__law_low) (defBody s__law_low) (defScope s__law_low) .none kV11 dc11 pm11 an11 cd11 ct11), sl11⟩) (c11 : PySem.W.codeIn K cd11 "_law_low" = true) (k11 : PySem.W.keepIn K (.ref f11) = true)
    (a12 : PySem.W.nsIn K mainGlobals "_law_position" = some (some (.ref f12))) (l12 : K.lookup f12 = some ⟨oc12, od12, .func (PySem.W.fnOf "_law_position" "_law_position" (defArgs s__law_position) (defBody s__law_position) (defScope s__law_position) .none kV12 dc12 pm12 an12 cd12 ct12), sl12⟩) (c12 : PySem.W.codeIn K cd12 "_law_position" = true) (k12 : PySem.W.keepIn K (.ref f12) = true)
    (a13 : PySem.W.nsIn K mainGlobals "_law_less" = some (some (.ref f13))) (l13 : K.lookup f13 = some ⟨oc13, od13, .func (PySem.W.fnOf "_law_less" "_law_less" (defArgs s__law_less) (defBody s__law_less) (defScope s__law_less) .none kV13 dc13 pm13 an13 cd13 ct13), sl13⟩) (c13 : PySem.W.codeIn K cd13 "_law_less" = true) (k13 : PySem.W.keepIn K (.ref f13) = true)
    (a14 : PySem.W.nsIn K mainGlobals "law" = some (some (.ref f14))) (l14 : K.lookup f14 = some ⟨oc14, od14, .func (PySem.W.fnOf "law" "law" (defArgs s_law) (defBody s_law) (defScope s_law) .none kV14 dc14 pm14 an14 cd14 ct14), sl14⟩) (c14 : PySem.W.codeIn K cd14 "law" = true) (k14 : PySem.W.keepIn K (.ref f14) = true)
    (z_all : PySem.W.nsIn K mainGlobals "all" = some none)
    (z_bool : PySem.W.nsIn K mainGlobals "bool" = some none)
    (z_dict : PySem.W.nsIn K mainGlobals "dict" = some none)
    (z_int : PySem.W.nsIn K mainGlobals "int" = some none)
    (z_isinstance : PySem.W.nsIn K mainGlobals "isinstance" = some none)
    (z_len : PySem.W.nsIn K mainGlobals "len" = some none)
    (z_list : PySem.W.nsIn K mainGlobals "list" = some none)
    (z_range : PySem.W.nsIn K mainGlobals "range" = some none)
    (z_sorted : PySem.W.nsIn K mainGlobals "sorted" = some none)
    (z_str : PySem.W.nsIn K mainGlobals "str" = some none)
    (z_tuple : PySem.W.nsIn K mainGlobals "tuple" = some none)
    (z_zip : PySem.W.nsIn K mainGlobals "zip" = some none)
    (g_gcd : PySem.W.nsIn K mainGlobals "gcd" = some (some (.builtin "math.gcd")))
    (g_lcm : PySem.W.nsIn K mainGlobals "lcm" = some (some (.builtin "math.lcm"))) :
    ∃ fd : FuncData, (∀ (s : Shared) (v : Value), BindsTo s fd ⟨[v], []⟩ [("_law_script", v)]) ∧ ∀ base : Heap, K.In base → base.Ns mainGlobals mg → FnOk l.prog w K mg base CX0 5 fa fd ["_law_script"] (spLaw K) := by
  have e := hfa.symm.trans (PySem.W.mg_of X G a14)
  cases e
  let T : Tx K mg := { f_lowest := f0, d_lowest := _, F_lowest := fun_mk (st := s_lowest) l0 c0 k0, g_lowest := PySem.W.mg_of X G a0, b_lowest := (fun_mk (st := s_lowest) l0 c0 k0).binds (ps := ["over", "under"]) (fun _ _ _ _ _ _ us hl => match us, hl with | [_, _], _ => rfl), f_middle := f1, d_middle := _, F_middle := fun_mk (st := s_middle) l1 c1 k1, g_middle := PySem.W.mg_of X G a1, b_middle := (fun_mk (st := s_middle) l1 c1 k1).binds (ps := ["one", "other"]) (fun _ _ _ _ _ _ us hl => match us, hl with | [_, _], _ => rfl), f_is_below := f2, d_is_below := _, F_is_below := fun_mk (st := s_is_below) l2 c2 k2, g_is_below := PySem.W.mg_of X G a2, b_is_below := (fun_mk (st := s_is_below) l2 c2 k2).binds (ps := ["one", "other"]) (fun _ _ _ _ _ _ us hl => match us, hl with | [_, _], _ => rfl), f_position_behind := f3, d_position_behind := _, F_position_behind := fun_mk (st := s_position_behind) l3 c3 k3, g_position_behind := PySem.W.mg_of X G a3, b_position_behind := (fun_mk (st := s_position_behind) l3 c3 k3).binds (ps := ["one", "other"]) (fun _ _ _ _ _ _ us hl => match us, hl with | [_, _], _ => rfl), f_ordered := f4, d_ordered := _, F_ordered := fun_mk (st := s_ordered) l4 c4 k4, g_ordered := PySem.W.mg_of X G a4, b_ordered := (fun_mk (st := s_ordered) l4 c4 k4).binds (ps := ["pairs"]) (fun _ _ _ _ _ _ us hl => match us, hl with | [_], _ => rfl), f__law_bag := f5, d__law_bag := _, F__law_bag := fun_mk (st := s__law_bag) l5 c5 k5, g__law_bag := PySem.W.mg_of X G a5, b__law_bag := (fun_mk (st := s__law_bag) l5 c5 k5).binds (ps := ["_law_script"]) (fun _ _ _ _ _ _ us hl => match us, hl with | [_], _ => rfl), f__law_draw := f6, d__law_draw := _, F__law_draw := fun_mk (st := s__law_draw) l6 c6 k6, g__law_draw := PySem.W.mg_of X G a6, b__law_draw := (fun_mk (st := s__law_draw) l6 c6 k6).binds (ps := ["_law_bag_here", "_law_many"]) (fun _ _ _ _ _ _ us hl => match us, hl with | [_, _], _ => rfl), f__law_of := f7, d__law_of := _, F__law_of := fun_mk (st := s__law_of) l7 c7 k7, g__law_of := PySem.W.mg_of X G a7, b__law_of := (fun_mk (st := s__law_of) l7 c7 k7).binds (ps := ["_law_bag_here", "_law_some"]) (fun _ _ _ _ _ _ us hl => match us, hl with | [_, _], _ => rfl), f__law_mixed := f8, d__law_mixed := _, F__law_mixed := fun_mk (st := s__law_mixed) l8 c8 k8, g__law_mixed := PySem.W.mg_of X G a8, b__law_mixed := (fun_mk (st := s__law_mixed) l8 c8 k8).binds (ps := ["_law_bag_here", "_law_some"]) (fun _ _ _ _ _ _ us hl => match us, hl with | [_, _], _ => rfl), f__law_same := f9, d__law_same := _, F__law_same := fun_mk (st := s__law_same) l9 c9 k9, g__law_same := PySem.W.mg_of X G a9, b__law_same := (fun_mk (st := s__law_same) l9 c9 k9).binds (ps := ["_law_found", "_law_due"]) (fun _ _ _ _ _ _ us hl => match us, hl with | [_, _], _ => rfl), f__law_divisor := f10, d__law_divisor := _, F__law_divisor := fun_mk (st := s__law_divisor) l10 c10 k10, g__law_divisor := PySem.W.mg_of X G a10, b__law_divisor := (fun_mk (st := s__law_divisor) l10 c10 k10).binds (ps := ["_law_a", "_law_b"]) (fun _ _ _ _ _ _ us hl => match us, hl with | [_, _], _ => rfl), f__law_low := f11, d__law_low := _, F__law_low := fun_mk (st := s__law_low) l11 c11 k11, g__law_low := PySem.W.mg_of X G a11, b__law_low := (fun_mk (st := s__law_low) l11 c11 k11).binds (ps := ["_law_over_z", "_law_under_z"]) (fun _ _ _ _ _ _ us hl => match us, hl with | [_, _], _ => rfl), f__law_position := f12, d__law_position := _, F__law_position := fun_mk (st := s__law_position) l12 c12 k12, g__law_position := PySem.W.mg_of X G a12, b__law_position := (fun_mk (st := s__law_position) l12 c12 k12).binds (ps := ["_law_bag_here"]) (fun _ _ _ _ _ _ us hl => match us, hl with | [_], _ => rfl), f__law_less := f13, d__law_less := _, F__law_less := fun_mk (st := s__law_less) l13 c13 k13, g__law_less := PySem.W.mg_of X G a13, b__law_less := (fun_mk (st := s__law_less) l13 c13 k13).binds (ps := ["_law_one_z", "_law_other_z"]) (fun _ _ _ _ _ _ us hl => match us, hl with | [_, _], _ => rfl), f_law := fa, d_law := _, F_law := fun_mk (st := s_law) l14 c14 k14, g_law := hfa, z_all := PySem.W.mg_none_of X G z_all, z_bool := PySem.W.mg_none_of X G z_bool, z_dict := PySem.W.mg_none_of X G z_dict, z_int := PySem.W.mg_none_of X G z_int, z_isinstance := PySem.W.mg_none_of X G z_isinstance, z_len := PySem.W.mg_none_of X G z_len, z_list := PySem.W.mg_none_of X G z_list, z_range := PySem.W.mg_none_of X G z_range, z_sorted := PySem.W.mg_none_of X G z_sorted, z_str := PySem.W.mg_none_of X G z_str, z_tuple := PySem.W.mg_none_of X G z_tuple, z_zip := PySem.W.mg_none_of X G z_zip, g_gcd := PySem.W.mg_of X G g_gcd, g_lcm := PySem.W.mg_of X G g_lcm }
  exact ⟨_, fun s v => .of_eq rfl, fun base _ _ => ok_law T⟩
end Kx
open PySem PySem.W PyProof.Rows
set_option maxRecDepth 100000 in
set_option maxHeartbeats 0 in
theorem PySem.Challenge.cw_piercednames_k03_positions_between_holds : PySem.Challenge.rw_piercednames_k03_positions_between.Holds := by
  w_on; o_law; k_head; (case hw => w_witness2)
  k_fill
  refine L2.walk_of (l := PySem.Challenge.rw_piercednames_k03_positions_between) (n := 63) (k := 5) (x := "_law_script") (CX := fun _ => L2.CX0) (sp := fun w => My.spLaw _) rfl (by decide) rfl ⟨rfl, by decide, by decide⟩ (fun w h Y => PySem.W.kIn_of Y) ?F (fun _ _ a ns hl _ hS => ⟨a, ns, rfl, hS, hl, fun _ => rfl⟩) (fun _ _ _ _ _ h => h)
  case F =>
    intro w mg fa h KX G hmg
    refine' Kx.all_mk KX G hmg ?a0 ?l0 ?c0 ?k0 ?a1 ?l1 ?c1 ?k1 ?a2 ?l2 ?c2 ?k2 ?a3 ?l3 ?c3 ?k3 ?a4 ?l4 ?c4 ?k4 ?a5 ?l5 ?c5 ?k5 ?a6 ?l6 ?c6 ?k6 ?a7 ?l7 ?c7 ?k7 ?a8 ?l8 ?c8 ?k8 ?a9 ?l9 ?c9 ?k9 ?a10 ?l10 ?c10 ?k10 ?a11 ?l11 ?c11 ?k11 ?a12 ?l12 ?c12 ?k12 ?a13 ?l13 ?c13 ?k13 ?a14 ?l14 ?c14 ?k14 ?z_all ?z_bool ?z_dict ?z_int ?z_isinstance ?z_len ?z_list ?z_range ?z_sorted ?z_str ?z_tuple ?z_zip ?g_gcd ?g_lcm
    (case a0 => k_is)
    (case l0 => k_is)
    (case c0 => k_is)
    (case k0 => k_is)
    (case a1 => k_is)
    (case l1 => k_is)
    (case c1 => k_is)
    (case k1 => k_is)
    (case a2 => k_is)
    (case l2 => k_is)
    (case c2 => k_is)
    (case k2 => k_is)
    (case a3 => k_is)
    (case l3 => k_is)
    (case c3 => k_is)
    (case k3 => k_is)
    (case a4 => k_is)
    (case l4 => k_is)
    (case c4 => k_is)
    (case k4 => k_is)
    (case a5 => k_is)
    (case l5 => k_is)
    (case c5 => k_is)
    (case k5 => k_is)
    (case a6 => k_is)
    (case l6 => k_is)
    (case c6 => k_is)
    (case k6 => k_is)
    (case a7 => k_is)
    (case l7 => k_is)
    (case c7 => k_is)
    (case k7 => k_is)
    (case a8 => k_is)
    (case l8 => k_is)
    (case c8 => k_is)
    (case k8 => k_is)
    (case a9 => k_is)
    (case l9 => k_is)
    (case c9 => k_is)
    (case k9 => k_is)
    (case a10 => k_is)
    (case l10 => k_is)
    (case c10 => k_is)
    (case k10 => k_is)
    (case a11 => k_is)
    (case l11 => k_is)
    (case c11 => k_is)
    (case k11 => k_is)
    (case a12 => k_is)
    (case l12 => k_is)
    (case c12 => k_is)
    (case k12 => k_is)
    (case a13 => k_is)
    (case l13 => k_is)
    (case c13 => k_is)
    (case k13 => k_is)
    (case a14 => k_is)
    (case l14 => k_is)
    (case c14 => k_is)
    (case k14 => k_is)
    (case z_all => k_is)
    (case z_bool => k_is)
    (case z_dict => k_is)
    (case z_int => k_is)
    (case z_isinstance => k_is)
    (case z_len => k_is)
    (case z_list => k_is)
    (case z_range => k_is)
    (case z_sorted => k_is)
    (case z_str => k_is)
    (case z_tuple => k_is)
    (case z_zip => k_is)
    (case g_gcd => k_is)
    (case g_lcm => k_is)
