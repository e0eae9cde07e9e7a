import PyProof.Rows.All
import Wide.All
import OpenK.AllK
import Wide.FinOn
import HandS.ForMost
import HandS.IsInst
import HandS.Conv
import HandS.Zip
import HandS.Strs
import HandS.Flow
import HandS.Codes
import HandS.SetKeys
import HandS.Walk
import HandS.StrMore
import HandS.Defaults
import HandS.ExcInit
import KE.KExcInit
import KE.KExcIs
import KE.IntTextLaws
import HandS.FStr
import HandS.TryOnly
import KE.KeyNested
import HandS.More
import HandS.Star
import HandS.Nested
import HandS.TupLen
import HandS.Steps
import HandS.RevRange
import HandS.MethStar
import HandS.Style
import KE.KDictPairs
import HandS.DictEq
import PyProof.DictFindH
import PyProof.DictRoadsH
import HandS.Head0
import HandS.Head1
import HandS.Head2
import HandS.HeadEnd
import HandS.HeadHook1
import HandS.HeadHook2
import HandS.HeadHook3
import HandS.HeadHook4
import HandS.HeadWalk
import KE.KStateDown
import Wide.Once
import PySem.Challenge.RW_piercednames_k41_sketches_put_in
set_option Elab.async false
set_option linter.all false
set_option maxRecDepth 100000
/-! part Kit1 -/
/-! My own rows over the layer: a list that is sealed (its content hidden behind a predicate), draws as free choices. -/
namespace My
open PySem PySem.Spec PyProof.Rows L2

/-- the predicate of a sealed list at a: some content that is so -/
def sealP (a : Addr) (φ : List V → Prop) : Heap → Prop := fun h => ∃ xs : List V, φ xs ∧ xs.length ≤ sizeLine ∧ ∃ (its : List Value) (n : Nat), Vals xs its ∧ h.get? a = some { cls := .type "list", data := .seq its.toArray n }
abbrev Seal (a : Addr) (φ : List V → Prop) : HO := .ext (sealP a φ)
theorem sealP_stay {a : Addr} {φ : List V → Prop} (h1 h2 : Heap) (p : sealP a φ h1) (k : ∀ o, h1.get? a = some o → h2.get? a = some o) : sealP a φ h2 := by
  obtain ⟨xs, p1, p2, its, n, r, e⟩ := p
  exact ⟨xs, p1, p2, its, n, r, k _ e⟩

section
variable {P : Program} {w : World} {K : PySem.W.Frag} {mg : Str → Option Value} {base : Heap}
/-- a list is sealed -/
theorem hok_seal {H : Hp} {h : Heap} {a : Addr} {φ : List V → Prop} {xs : List V} (ok : HOk P w H h) (e : H a = some (.lst xs)) (p : φ xs) : HOk P w (upd H a (Seal a φ)) h := fun b o q => by
  by_cases hb : b = a
  · subst hb
    rw [upd_same] at q
    cases q
    obtain ⟨z, its, n, r, eo⟩ := (show ObjOk P w H h b (.lst xs) from ok b _ e)
    exact ⟨⟨xs, p, z, its, n, r, eo⟩, ⟨_, eo⟩, fun h1 h2 => sealP_stay h1 h2⟩
  · rw [upd_ne hb] at q
    refine (ok b o q).stay (fun _ _ _ r => r) (fun c r => ?_) (fun c ys r => ?_)
    · rw [upd_ne (ne_of r e (by intro z; cases z))]; exact r
    · rw [upd_ne (ne_of r e (by intro z; cases z))]; exact r
theorem hok_open {H : Hp} {h : Heap} {a : Addr} {φ : List V → Prop} (ok : HOk P w H h) (e : H a = some (Seal a φ)) : ∃ xs, φ xs ∧ HOk P w (upd H a (.lst xs)) h := by
  obtain ⟨⟨xs, p, z, its, n, r, eo⟩, _, _⟩ := (show ObjOk P w H h a (Seal a φ) from ok a _ e)
  refine ⟨xs, p, fun b o q => ?_⟩
  by_cases hb : b = a
  · subst hb
    rw [upd_same] at q
    cases q
    exact ⟨z, its, n, r, eo⟩
  · rw [upd_ne hb] at q
    refine (ok b o q).stay (fun _ _ _ r => r) (fun c r => ?_) (fun c ys r => ?_)
    · rw [upd_ne (ne_of r e (by intro z; cases z))]; exact r
    · rw [upd_ne (ne_of r e (by intro z; cases z))]; exact r
theorem none_upd {H : Hp} {a b : Addr} {o u : HO} (e : H a = some o) (h : H b = none) : upd H a u b = none := by
  rw [upd_ne (fun z => by subst z; rw [e] at h; cases h)]; exact h
/-- THE RULE: a def that works on the open list keeps the promise over the sealed one -/
theorem fn_seal {k : Nat} {f : Addr} {fd : FuncData} {ps : List Str} {sp sp' : Sp} (F : FnOk P w K mg base CX0 k f fd ps sp)
    (len : ∀ vs H Q E, sp' vs H Q E → vs.length = ps.length)
    (h : ∀ vs H Q E, sp' vs H Q E → ∃ (a : Addr) (φ : List V → Prop), H a = some (Seal a φ) ∧ ∀ xs, φ xs → sp vs (upd H a (.lst xs)) (fun v H' => ∃ ys, H' a = some (.lst ys) ∧ φ ys ∧ Q v (upd H' a (Seal a φ))) E) :
    FnOk P w K mg base CX0 k f fd ps sp' := by
  refine ⟨len, fun A outer s H args us vs Q E hr he hb hv hs => ?_⟩
  obtain ⟨a, φ, e, h⟩ := h vs H Q E hs
  obtain ⟨xs, p, ok⟩ := hok_open he.hok e
  have he1 : Env0 P w K mg base A outer s (upd H a (.lst xs)) :=
    ⟨he.frames, he.mod, fun b o q => ⟨(he.bs b o q).1, none_upd e (he.bs b o q).2⟩, he.bsz, he.funs, fun b hb => none_upd e (he.frf b hb), ok, he.bare⟩
  have R := F.run A outer s (upd H a (.lst xs)) args us vs _ E hr he1 hb hv (h xs p)
  refine codeAny_mono R fun r s' c => ?_
  cases r with
  | error x => exact (show False from c).elim
  | ok fl =>
    cases fl with
    | ret u =>
      obtain ⟨v, H', h1, h2, h3, h4, h5, ys, h6, h7, h8⟩ := c
      refine ⟨v, upd H' a (Seal a φ), h1, h2, ?_, hok_seal h4 h6 h7, h5, h8⟩
      have nn : ∀ b, H b = none → upd H a (.lst xs) b = none := fun b q => none_upd e q
      have ne : ∀ b o, H b = some o → (∀ ψ, o ≠ .ext ψ) → b ≠ a := fun b o q n => ne_of q e (n _)
      refine ⟨fun b o q n i j => h3.keep b o q (nn b n) i j, fun b o q n i j => h3.slot b o q (nn b n) i j, fun b o q n j => none_upd h6 (h3.free b o q (nn b n) j), fun b o q j => h3.there b o q j, fun b ys q => ?_, fun b o u q => ?_, fun b ps q => ?_⟩
      · have z := ne b _ q (fun ψ z => by cases z)
        rw [upd_ne z]; exact h3.tups b ys (by rw [upd_ne z]; exact q)
      · have z := ne b _ q (fun ψ z => by cases z)
        rw [upd_ne z]; exact h3.frzs b o u (by rw [upd_ne z]; exact q)
      · have z := ne b _ q (fun ψ z => by cases z)
        rw [upd_ne z]; exact h3.tbls b ps (by rw [upd_ne z]; exact q)
    | _ => exact c
end
end My
/-! part SetMk -/
/-! set(xs) of a list or a tuple of any keys, any number below the scan's bound (own proof; the library has it for ints, and for at most one text) -/
namespace My
open PySem PySem.Spec PyProof.Rows L2
section
variable {prog : Program} {w : World} {κ : Type} [DecidableEq κ] (knd : KeyKind prog w κ)
/-- the set at a has met the first i keys -/
def Met (a : Addr) (ks : List κ) (i : Nat) (h : Heap) : Prop := ∃ (S : κ → Bool) (n : Nat), h.SetOf knd a S n ∧ n ≤ i ∧ ∀ k, S k = true ↔ k ∈ ks.take i
variable {knd}
theorem Met.at {a : Addr} {ks : List κ} {i : Nat} {g h : Heap} (m : Met knd a ks i g) (k : ∀ o, g.get? a = some o → h.get? a = some o) : Met knd a ks i h := by
  obtain ⟨S, n, ⟨o, es, ep, t, ho, r⟩, z⟩ := m
  exact ⟨S, n, ⟨o, es, ep, t, k o ho, r⟩, z⟩
variable {A : Around} {R : Result → Shared → Prop} {it a : Addr} {fp wr : List Addr} {G : Array GenState → Array GenState → Prop} {n : Nat} {Pv : Nat → Value → Prop} {St : Nat → Shared → Prop}
/-- the turns that are left: each item is added -/
theorem met_all (W : WalksS prog w A.in1 it fp wr G n Pv St) (off : a ∉ fp) (ks : List κ) (room : n + 1 < scanBound)
    (is : ∀ i v, Pv i v → ∃ k, ks[i]? = some k ∧ knd.is k v = true ∧ v.scannable = true) (d : Nat) : ∀ (i : Nat) (s : Shared), i + d = n → St i s → Met knd a ks i s.heap →
      (∀ z, Moved (a :: wr) G s z → Met knd a ks n z.heap → R (.ok (.ret .none)) z) → codeAny (model prog w) A (.builtin "set.update.loop" ⟨[.ref a, .ref it], []⟩) R s := by
  have offw : a ∉ wr := fun q => off (W.sub a q)
  have wide : ∀ b ∈ wr, b ∈ a :: wr := fun b q => List.mem_cons_of_mem a q
  induction d with
  | zero =>
    intro i s e st m fin
    obtain rfl : i = n := by omega
    refine codeAny_builtin PyProof.Rows.F.entry_set_update_loop ?_
    rw [Around.under_plainId PyProof.Rows.F.plain_set_update_loop _]
    show wpAny (model prog w) A.in1 (pyNext (.ref it) >>= _) _ _ s
    refine wpAny_bind (W.done s _ _ st fun z mv => ?_)
    show wpAny (model prog w) A.in1 (ret Value.none) _ _ z
    exact wpAny_pure (fin z (mv.mono wide) (m.at fun o q => mv.heap a o offw q))
  | succ d ih =>
    intro i s e st m fin
    refine codeAny_builtin PyProof.Rows.F.entry_set_update_loop ?_
    rw [Around.under_plainId PyProof.Rows.F.plain_set_update_loop _]
    show wpAny (model prog w) A.in1 (pyNext (.ref it) >>= _) _ _ s
    refine wpAny_bind (W.item i s _ _ (by omega) st fun v z pv st' mv => ?_)
    obtain ⟨k, hk, ik, sc⟩ := is i v pv
    obtain ⟨S, c, so, cn, mem⟩ := m.at (h := z.heap) fun o q => mv.heap a o offw q
    show wpAny (model prog w) A.in1 (holding [v] (setAdd a v) >>= _) _ _ z
    refine wpAny_bind (wpAny_holding ?_)
    unfold setAdd
    refine wpAny_holding (wpAny_bind (knd.pyHash ik ?_))
    refine wpAny_setAddHashed_of (knd := knd) (s := { z with toks := z.toks + 1 }) ik sc so (by omega) fun h2 same so2 => ?_
    have m2 : Met knd a ks (i + 1) h2 := by
      refine ⟨_, _, so2, by split <;> omega, fun q => ?_⟩
      rw [List.take_add_one, hk, List.mem_append]
      show (S q || decide (q = k)) = true ↔ q ∈ ks.take i ∨ q ∈ [k]
      rw [Bool.or_eq_true, mem q, decide_eq_true_eq, List.mem_singleton]
    have far : ∀ b ∈ fp, b ≠ a := fun b hb q => off (q ▸ hb)
    refine wpAny_pure ⟨plainId_quiet PyProof.Rows.F.plain_set_update_loop _, ih (i + 1) _ (by omega) (W.frame (i + 1) z h2 _ st' (Nat.le_succ _) fun b hb o q => (same.2 b (far b hb)).trans q) m2 fun y mv2 m3 => fin y ?_ m3⟩
    exact Moved.trans W.gtrans ((mv.mono wide).then_heap (Nat.le_succ _) fun b o hb q => (same.2 b fun u => hb (u ▸ List.mem_cons_self)).trans q) mv2
end
section
variable {prog : Program} {w : World} {κ : Type} [DecidableEq κ] [BEq κ] [LawfulBEq κ] {knd : KeyKind prog w κ} {A : Around} {E : Value → Shared → Prop} {s : Shared}
/-- an empty set's object -/
abbrev setEmpty (led : Bool) : Obj := { cls := .type "set", dict := none, data := .set #[] 0 (.fresh 0 0 led) }
theorem met_none (led : Bool) {a : Addr} {ks : List κ} {h : Heap} (e : h.get? a = some (setEmpty led)) : Met knd a ks 0 h :=
  ⟨_, _, (PyProof.Rows.setObjOf_fresh (knd := knd) led).setOf e (by decide), Nat.le_refl 0, fun k => by simp⟩
set_option maxHeartbeats 3200000 in
/-- set(x), x a list or a tuple -/
theorem set_of (l : Addr) (items : Array Value) (ks : List κ) {Q : Value → Shared → Prop} (calm : A.handled = none) (src : s.heap.IsList l items ∨ s.heap.IsTuple l items) (room : items.size + 1 < scanBound)
    (is : ∀ (i : Nat) (v : Value), items[i]? = some v → ∃ k, ks[i]? = some k ∧ knd.is k v = true ∧ v.scannable = true)
    (fin : ∀ (h : Heap) (t : Nat), Met knd s.heap.objs.size ks items.size h → (∀ b o, b < s.heap.objs.size → s.heap.get? b = some o → h.get? b = some o) → Q (.ref s.heap.objs.size) { s with heap := h, toks := t }) :
    wpAny (model prog w) A (call (.type "set") [.ref l]) Q E s := by
  let a := s.heap.objs.size
  obtain ⟨c, tl, u1⟩ := PySem.F.called_set.mro
  have u2 := PySem.F.called_set.made
  have u3 := PySem.F.called_set.sub
  refine wpAny_call (codeAny_of_tree ((wpAny_pure ⟨Code.quiet_builtin _ (by decide +kernel), codeAny_builtin PySem.F.entry_type_call ?_⟩ : wpAny _ _ (callAny (.type "set") _) _ _ _)))
  rw [Around.under_plain (weight_type_call_type "set" [.ref l] []) rfl]
  have u4 := PySem.F.called_set.notType
  have u5 := PySem.F.called_set.canCreate
  have u6 := PySem.F.typeCall_set_1 (.ref l)
  repeat (any_goals (first | assumption | wp_step))
  refine codeAny_mono (code_set_new_1 (.ref l) (E := E) (Q₁ := fun o z => ∃ led : Bool, o = .ref a ∧ z = { s with heap := s.heap.push (setEmpty led) }) fun led => ⟨led, rfl, rfl⟩) fun r z hr => ?_
  rcases r with e | fl
  · exact hr
  cases fl with
  | ret o =>
    obtain ⟨led, rfl, rfl⟩ := hr
    have ea : (s.heap.push (setEmpty led)).get? a = some (setEmpty led) := Heap.get?_push_size _ rfl
    have ty : Shared.TypeIs { s with heap := s.heap.push (setEmpty led) } (.ref a) "set" := ⟨_, ea, rfl⟩
    have u7 := PySem.F.called_set.init.lookup
    have u8 := PySem.F.called_set.init.bind (.ref a)
    repeat (any_goals (first | assumption | wp_step))
    refine codeAny_mono (codeAny_call_builtin (R := wants (fun r z => r = .none ∧ ∃ h t, z = { s with heap := h, toks := t } ∧ Met knd a ks items.size h ∧ ∀ b o, b < a → s.heap.get? b = some o → h.get? b = some o) E)
      PySem.F.called_set.init.plain PySem.F.entry_set_init (check_set_init_1 ty ?_)) fun r z hr => ?_
    · have far : ∀ {b : Addr}, b < a → b ≠ (s.heap.push (setEmpty led)).objs.size := fun {b} hb => by
        rw [Heap.size_push]
        exact Nat.ne_of_lt (Nat.lt_succ_of_lt hb)
      have off : ∀ {b : Addr}, b < a → a ∉ [(s.heap.push (setEmpty led)).objs.size, b] := fun {b} hb hm => by
        rw [Heap.size_push] at hm
        rcases List.mem_cons.mp hm with q | q
        · exact Nat.ne_of_lt (Nat.lt_succ_self a) q
        · exact Nat.ne_of_gt hb (List.mem_singleton.mp q)
      have close : ∀ (z : Shared) (o : Obj), Moved [a, (s.heap.push (setEmpty led)).objs.size] (fun x y => y = x) { s with heap := (s.heap.push (setEmpty led)).push o } z → Met knd a ks items.size z.heap →
          ∃ (h : Heap) (t : Nat), z = { s with heap := h, toks := t } ∧ Met knd a ks items.size h ∧ ∀ b o, b < a → s.heap.get? b = some o → h.get? b = some o := fun z o mv m => by
        obtain ⟨h, g, dr, t, os⟩ := z
        have e1 : g = s.gens := mv.gens
        have e2 : dr = s.drawn := mv.drawn
        have e3 : os = s.os := mv.os
        subst e1 e2 e3
        refine ⟨h, t, rfl, m, fun b o hb q => mv.heap b o (fun hm => ?_) (Heap.get?_push_of_some _ (Heap.get?_push_of_some _ q))⟩
        rcases List.mem_cons.mp hm with u | u
        · exact Nat.ne_of_lt hb u
        · exact far hb (List.mem_singleton.mp u)
      rcases src with src | src
      · obtain ⟨ol, p1, p2, nl, p3⟩ := src
        have low : l < a := Heap.lt_size p1
        obtain ⟨oc, od, oda, osl⟩ := ol
        simp only at p2 p3
        subst p2 p3
        have p4 : (s.heap.push (setEmpty led)).get? l = some ⟨.type "list", od, .seq items nl, osl⟩ := Heap.get?_push_of_some _ p1
        have u9 := PySem.F.sub_list_set
        have u10 := PySem.F.sub_list_frozenset
        have u11 : (Value.type "list" == Value.type "dict") = false := by decide
        have p5 : (s.heap.push (setEmpty led)).IsList l items := ⟨_, p4, rfl, nl, rfl⟩
        unfold Builtin.«set.__init__» noKeywords Builtin.Frozenset.updateFrom
        generalize hide : pyIter = PI
        wp_walk
        subst hide
        refine wpAny_pyIter_list p5 (wpAny_bind (wpAny_runValue ?_))
        refine met_all ((Walks.list (show A.in1.in1.in1.handled = none by simp [calm]) _ l (far low) items).toS) (off low) ks room is items.size 0 _ (Nat.zero_add _) ⟨⟨_, Heap.get?_push_size _ rfl, rfl, rfl⟩, p5.push _⟩ (met_none led (Heap.get?_push_of_some _ ea)) fun z mv m => ?_
        show wpAny _ _ _ _ _ z
        refine wpAny_pure ?_
        show wpAny _ _ (ret Value.none) _ _ z
        exact wpAny_pure ⟨rfl, close z _ mv m⟩
      · obtain ⟨ol, p1, p2, nl, p3⟩ := src
        have low : l < a := Heap.lt_size p1
        obtain ⟨oc, od, oda, osl⟩ := ol
        simp only at p2 p3
        subst p2 p3
        have p4 : (s.heap.push (setEmpty led)).get? l = some ⟨.type "tuple", od, .seq items nl, osl⟩ := Heap.get?_push_of_some _ p1
        have u9 := PySem.F.sub_tuple_set
        have u10 := PySem.F.sub_tuple_frozenset
        have u11 : (Value.type "tuple" == Value.type "dict") = false := by decide
        have p5 : (s.heap.push (setEmpty led)).IsTuple l items := ⟨_, p4, rfl, nl, rfl⟩
        unfold Builtin.«set.__init__» noKeywords Builtin.Frozenset.updateFrom
        generalize hide : pyIter = PI
        wp_walk
        subst hide
        refine wpAny_pyIter_tuple p5 (wpAny_bind (wpAny_runValue ?_))
        refine met_all ((Walks.tuple (show A.in1.in1.in1.handled = none by simp [calm]) _ l (far low) items).toS) (off low) ks room is items.size 0 _ (Nat.zero_add _) ⟨⟨_, Heap.get?_push_size _ rfl, rfl, rfl⟩, p5.push _⟩ (met_none led (Heap.get?_push_of_some _ ea)) fun z mv m => ?_
        show wpAny _ _ _ _ _ z
        refine wpAny_pure ?_
        show wpAny _ _ (ret Value.none) _ _ z
        exact wpAny_pure ⟨rfl, close z _ mv m⟩
    · rcases r with e | fl2
      · exact hr
      cases fl2 with
      | ret r =>
        obtain ⟨rfl, h, t, rfl, m, k⟩ := hr
        repeat (any_goals (first | assumption | wp_step))
        exact fin h t m k
      | _ => exact hr.elim
  | _ => exact hr.elim
end
end My
/-! part Kit2 -/
namespace My
open PySem PySem.Spec PyProof.Rows L2

theorem same_new {H : Hp} {p : Addr} (h : H p = none) (o : HO) : Same H (upd H p o) := fun b u q => by rw [upd_ne (ne_of_none q h)]; exact q
theorem upd_self {H : Hp} {a : Addr} {o : HO} (h : H a = some o) : upd H a o = H := by
  funext b
  unfold upd
  split
  · rename_i e; rw [e, h]
  · rfl
theorem fmod_lo (x : Int) {k : Int} (h : 0 < k) : 0 ≤ x.fmod k := by
  rw [Int.fmod_eq_emod_of_nonneg _ (Int.le_of_lt h)]
  exact Int.emod_nonneg _ (by omega)
theorem fmod_hi (x : Int) {k : Int} (h : 0 < k) : x.fmod k < k := by
  rw [Int.fmod_eq_emod_of_nonneg _ (Int.le_of_lt h)]
  exact Int.emod_lt_of_pos _ h

/-! ### the bag of draws -/
/-- its five items: the cells at l, how many of k were taken, the rest of a great one, the mixed number, the draws -/
def bagF (l : Addr) (k : Nat) : List V → Prop := fun xs => ∃ i g m n : Int, xs = [.ref l, .int i, .int g, .int m, .int n] ∧ 0 ≤ i ∧ i ≤ (k : Int) ∧ 0 ≤ m ∧ m < 2147483629
/-- a bag stands at a -/
def IsBag (H : Hp) (a : Addr) : Prop := ∃ (l : Addr) (ns : List Int), H l = some (.lst (ns.map V.int)) ∧ ns.length ≤ 63 ∧ H a = some (Seal a (bagF l ns.length))
theorem IsBag.same {H H' : Hp} {a : Addr} (b : IsBag H a) (s : Same H H') : IsBag H' a := by
  obtain ⟨l, ns, h1, h2, h3⟩ := b
  exact ⟨l, ns, s _ _ h1, h2, s _ _ h3⟩
/-- the open one, as the def of the draws sees it -/
def spDraw0 : Sp := fun vs H Q _ => ∃ (a l : Addr) (ns : List Int) (k : Int) (xs : List V), vs = [.ref a, .int k] ∧ H l = some (.lst (ns.map V.int)) ∧ H a = some (.lst xs) ∧ l ≠ a ∧ bagF l ns.length xs ∧ 0 < k ∧ k < 1073741824 ∧
  ∀ (d : Int) (ys : List V), 0 ≤ d → d < k → bagF l ns.length ys → Q (.int d) (upd H a (.lst ys))
/-- a draw below k: any number -/
def spDraw : Sp := fun vs H Q _ => ∃ (a : Addr) (k : Int), vs = [.ref a, .int k] ∧ IsBag H a ∧ 0 < k ∧ k < 1073741824 ∧ ∀ d : Int, 0 ≤ d → d < k → Q (.int d) H
theorem draw_sealed {P : Program} {w : World} {K : PySem.W.Frag} {mg : Str → Option Value} {base : Heap} {k : Nat} {f : Addr} {fd : FuncData} {ps : List Str}
    (F : FnOk P w K mg base CX0 k f fd ps spDraw0) (h2 : ps.length = 2) : FnOk P w K mg base CX0 k f fd ps spDraw := by
  refine fn_seal F (fun vs H Q E h => ?_) (fun vs H Q E h => ?_)
  · obtain ⟨a, k, rfl, _⟩ := h
    exact h2.symm
  · obtain ⟨a, k, rfl, ⟨l, ns, hl, hn, ha⟩, h0, h1, q⟩ := h
    have la : l ≠ a := ne_of hl ha (by intro z; cases z)
    refine ⟨a, _, ha, fun xs hx => ⟨a, l, ns, k, xs, rfl, ?_, upd_same, la, hx, h0, h1, fun d ys hd hk hy => ⟨ys, upd_same, hy, ?_⟩⟩⟩
    · rw [upd_ne la]; exact hl
    · rw [upd_upd, upd_upd, upd_self ha]; exact q d hd hk
/-- an item drawn out of a list or a text -/
def spOf (K : PySem.W.Frag) : Sp := fun vs H Q _ => ∃ (a p : Addr) (xs : List V), vs = [.ref a, .ref p] ∧ IsBag H a ∧ SqL K H p xs ∧ 0 < xs.length ∧ xs.length ≤ 1000000 ∧ ∀ (i : Nat) (v : V), xs[i]? = some v → Q v H

/-- a def that hands back a new list, which is then sealed -/
theorem fn_seal_ret {P : Program} {w : World} {K : PySem.W.Frag} {mg : Str → Option Value} {base : Heap} {k : Nat} {f : Addr} {fd : FuncData} {ps : List Str} {sp sp' : Sp} (F : FnOk P w K mg base CX0 k f fd ps sp)
    (len : ∀ vs H Q E, sp' vs H Q E → vs.length = ps.length)
    (h : ∀ vs H Q E, sp' vs H Q E → sp vs H (fun v H' => ∃ (a : Addr) (φ : List V → Prop) (ys : List V), H' a = some (.lst ys) ∧ φ ys ∧ Q v (upd H' a (Seal a φ))) E) :
    FnOk P w K mg base CX0 k f fd ps sp' := by
  refine ⟨len, fun A outer s H args us vs Q E hr he hb hv hs => ?_⟩
  have R := F.run A outer s H args us vs _ E hr he hb hv (h vs H Q E hs)
  refine codeAny_mono R fun r s' c => ?_
  cases r with
  | error x => exact (show False from c).elim
  | ok fl =>
    cases fl with
    | ret u =>
      obtain ⟨v, H', h1, h2, h3, h4, h5, a, φ, ys, h6, h7, h8⟩ := c
      refine ⟨v, upd H' a (Seal a φ), h1, h2, ?_, hok_seal h4 h6 h7, h5, h8⟩
      refine ⟨fun b o q n i j => h3.keep b o q n i j, fun b o q n i j => h3.slot b o q n i j, fun b o q n j => none_upd h6 (h3.free b o q n j), fun b o q j => h3.there b o q j, fun b zs q => ?_, fun b o z q => ?_, fun b zs q => ?_⟩
      · have z := h3.tups b zs q
        rw [upd_ne (ne_of z h6 (by intro y; cases y))]; exact z
      · have z := h3.frzs b o z q
        rw [upd_ne (ne_of z h6 (by intro y; cases y))]; exact z
      · obtain ⟨m, z⟩ := h3.tbls b zs q
        exact ⟨m, by rw [upd_ne (ne_of z h6 (by intro y; cases y))]; exact z⟩
    | _ => exact c
def spBag0 (K : PySem.W.Frag) : Sp := fun vs H Q _ => ∃ (a : Addr) (ns : List Int), vs = [.ref a] ∧ SqL K H a (ns.map V.int) ∧ ns.length ≤ 63 ∧ ∀ (H' : Hp) (b l : Addr) (ms : List Int) (ys : List V), Same H H' → H b = none → H' l = some (.lst (ms.map V.int)) → ms.length ≤ 63 → H' b = some (.lst ys) → bagF l ms.length ys → l ≠ b → Q (.ref b) H'
/-- the bag of a script: new -/
def spBag (K : PySem.W.Frag) : Sp := fun vs H Q _ => ∃ (a : Addr) (ns : List Int), vs = [.ref a] ∧ SqL K H a (ns.map V.int) ∧ ns.length ≤ 63 ∧ ∀ (H' : Hp) (b : Addr), Same H H' → H b = none → IsBag H' b → Q (.ref b) H'
theorem bag_sealed {P : Program} {w : World} {K : PySem.W.Frag} {mg : Str → Option Value} {base : Heap} {k : Nat} {f : Addr} {fd : FuncData} {ps : List Str}
    (F : FnOk P w K mg base CX0 k f fd ps (spBag0 K)) (h2 : ps.length = 1) : FnOk P w K mg base CX0 k f fd ps (spBag K) := by
  refine fn_seal_ret F (fun vs H Q E h => ?_) (fun vs H Q E h => ?_)
  · obtain ⟨a, ns, rfl, _⟩ := h
    exact h2.symm
  · obtain ⟨a, ns, rfl, hs, hn, q⟩ := h
    refine ⟨a, ns, rfl, hs, hn, fun H' b l ms ys sm nb hl hm hb hf lb => ⟨b, _, ys, hb, hf, q _ b ?_ nb ⟨l, ms, ?_, hm, upd_same⟩⟩⟩
    · intro c o e
      rw [upd_ne (ne_of_none e nb)]
      exact sm c o e
    · rw [upd_ne lb]; exact hl
theorem cut_map (ns : List Int) (lo hi : Option Int) : ∃ ms : List Int, cutV (ns.map V.int) lo hi = ms.map V.int ∧ ms.length ≤ ns.length := by
  refine ⟨(ns.drop (HT.sIx (ns.map V.int).length 0 lo)).take (HT.sIx (ns.map V.int).length (ns.map V.int).length hi - HT.sIx (ns.map V.int).length 0 lo), ?_, ?_⟩
  · unfold cutV
    rw [List.map_take, List.map_drop]
  · rw [List.length_take, List.length_drop]
    omega
theorem small63 {n : Nat} (h : n ≤ 1000) : n ≤ sizeLine := Nat.le_of_lt (small1000 h)
end My
/-! part Kit3 -/
namespace My
open PySem PySem.Spec PyProof.Rows L2
section
variable {X : Cx} (K : PySem.W.Frag) (h : X.K = K := by rfl)
include h
theorem k_ix_list : IxR X (rIxL K) := by subst h; exact ix_list
theorem k_ix_tup : IxR X (rIxT K) := by subst h; exact ix_tup
theorem k_op_in_seq : OpR X (compareOp .In) (rIn K false) := by subst h; exact op_in_seq
theorem k_op_notIn_seq : OpR X (compareOp .NotIn) (rIn K true) := by subst h; exact op_notIn_seq
theorem k_call_len_seq : CallR X (.builtin "len") (fun xs H Q => ∃ p ys, xs = [.ref p] ∧ (SqL K H p ys ∨ SqT K H p ys) ∧ Q (.int ys.length) H) := by subst h; exact call_len_seq
theorem k_sl_list : SlR X (rSlL K) := by subst h; exact sl_list
theorem k_sl_tup : SlR X (rSlT K) := by subst h; exact sl_tup
theorem k_call_list_of : CallR X (.type "list") (fun xs H Q => ∃ p ys, xs = [.ref p] ∧ (SqL K H p ys ∨ SqT K H p ys) ∧ ∀ l, H l = none → Q (.ref l) (upd H l (.lst ys))) := by subst h; exact call_list_of
theorem k_call_tuple_of : CallR X (.type "tuple") (fun xs H Q => ∃ p ys, xs = [.ref p] ∧ ((SqL K H p ys ∧ ∀ l, H l = none → Q (.ref l) (upd H l (.tup ys))) ∨ (SqT K H p ys ∧ Q (.ref p) H))) := by subst h; exact call_tuple_of
theorem k_op_catT : OpR X (binaryOp .Add) (rCatT K) := by subst h; exact op_catT
theorem k_call_isi : CallR X (.builtin "isinstance") (rIsi K) := by subst h; exact call_isi
theorem k_call_isiT : CallR X (.builtin "isinstance") (rIsiT K) := by subst h; exact call_isiT
theorem k_op_eqD (hu : X.A.units + 64 < cLine) : OpR X (compareOp .Eq) (rEqD K) := by subst h; exact op_eqD hu
theorem k_op_neD (hu : X.A.units + 64 < cLine) : OpR X (compareOp .NotEq) (rNeD K) := by subst h; exact op_neD hu
end
section
variable {X : Cx} (K : PySem.W.Frag) (h : X.K = K := by rfl) (hc : X.calm = true := by rfl)
include h hc
theorem k_cr_all : CallR X (.builtin "all") (rAll K) := by subst h; exact cr_all hc
theorem k_cr_any : CallR X (.builtin "any") (rAny K) := by subst h; exact cr_any hc
theorem k_cr_sum : CallR X (.builtin "sum") (rSum K) := by subst h; exact cr_sum hc
end
theorem _root_.L2.Same.seqT {K : PySem.W.Frag} {H H' : Hp} {a : Addr} {xs : List V} (e : Same H H') (h : SqT K H a xs) : SqT K H' a xs := by
  rcases h with (h | ⟨o, h⟩) | h
  · exact .inl (.inl (e _ _ h))
  · exact .inl (.inr ⟨o, e _ _ h⟩)
  · exact .inr h
theorem ty_list {K : PySem.W.Frag} {H : Hp} {a : Addr} {xs : List V} (h : SqL K H a xs) : TyX K H (.ref a) (.type "list") := by
  rcases h with (h | ⟨o, h⟩) | ⟨o, _, _, h, c, _⟩
  · exact .base (.lst h)
  · exact .base (.frz h)
  · exact .kList h c
theorem ty_tuple {K : PySem.W.Frag} {H : Hp} {a : Addr} {xs : List V} (h : SqT K H a xs) : TyX K H (.ref a) (.type "tuple") := by
  rcases h with (h | ⟨o, h⟩) | ⟨o, _, _, h, c, _⟩
  · exact .base (.tup h)
  · exact .fTuple h
  · exact .kTuple h c
theorem walk_zipT {K : PySem.W.Frag} {a b : Addr} {xs ys : List V} {n : Nat} (hn : n = min xs.length ys.length) : Walk (RZ.ItzT K a b) n (fun H => SqT K H a xs ∧ SqT K H b ys) (YPair (fun i => xs[i]?) (fun i => ys[i]?)) := by
  subst hn
  refine ⟨fun i H hi q => ?_, fun H q => ⟨xs, ys, q.1, q.2, by omega⟩, fun i H v H' hi q y => ?_⟩
  · have u1 : i < xs.length := by omega
    have u2 : i < ys.length := by omega
    exact ⟨xs, ys, xs[i], ys[i], q.1, q.2, by simp [u1], by simp [u2]⟩
  · obtain ⟨T, x, z, u1, u2, u3, u4, u5⟩ := y
    exact ⟨T, x, z, u1, u2, u3, u4 xs q.1, u5 ys q.2⟩
def scalV : V → Bool
  | .non => true
  | .bl _ => true
  | .int _ => true
  | .str _ => true
  | _ => false
/-- v and w are the same data, at most n deep -/
def Eqv (K : PySem.W.Frag) (H : Hp) : Nat → V → V → Prop
  | 0, _, _ => False
  | n + 1, v, w => (v = w ∧ scalV v = true) ∨
    (∃ (a b : Addr) (xs ys : List V), v = .ref a ∧ w = .ref b ∧ SqL K H a xs ∧ SqL K H b ys ∧ xs.length = ys.length ∧ xs.length < sizeLine ∧ ∀ (i : Nat) (x y : V), xs[i]? = some x → ys[i]? = some y → Eqv K H n x y) ∨
    (∃ (a b : Addr) (xs ys : List V), v = .ref a ∧ w = .ref b ∧ SqT K H a xs ∧ SqT K H b ys ∧ xs.length = ys.length ∧ xs.length < sizeLine ∧ ∀ (i : Nat) (x y : V), xs[i]? = some x → ys[i]? = some y → Eqv K H n x y)
theorem Eqv.same {K : PySem.W.Frag} {H H' : Hp} (s : Same H H') : ∀ {n : Nat} {v w : V}, Eqv K H n v w → Eqv K H' n v w
  | 0, _, _, h => h.elim
  | n + 1, _, _, .inl h => .inl h
  | n + 1, _, _, .inr (.inl ⟨a, b, xs, ys, e1, e2, h1, h2, h3, h4, h5⟩) => .inr (.inl ⟨a, b, xs, ys, e1, e2, s.seq h1, s.seq h2, h3, h4, fun i x y hx hy => Eqv.same s (h5 i x y hx hy)⟩)
  | n + 1, _, _, .inr (.inr ⟨a, b, xs, ys, e1, e2, h1, h2, h3, h4, h5⟩) => .inr (.inr ⟨a, b, xs, ys, e1, e2, Same.seqT s h1, Same.seqT s h2, h3, h4, fun i x y hx hy => Eqv.same s (h5 i x y hx hy)⟩)
/-- the law's own comparison, of same data -/
def spSame (K : PySem.W.Frag) (n : Nat) : Sp := fun vs H Q _ => ∃ (v w : V), vs = [v, w] ∧ Eqv K H n v w ∧ ∀ H', Same H H' → Q (.bl true) H'
end My
/-! part Kit4 -/
namespace My
open PySem PySem.Spec PyProof.Rows L2
/-! ### words of letters -/
abbrev az : Str := Str.ofString "abcdefghijklmnopqrstuvwxyz"
def kwL : List Str := [Str.ofString "let", Str.ofString "set", Str.ofString "out", Str.ofString "read", Str.ofString "do", Str.ofString "def", Str.ofString "if", Str.ofString "else", Str.ofString "repeat", Str.ofString "block"]
/-- the program's own test of a name -/
def nameB (z : Str) : Bool := if (z.length : Int) > 6 then false else Txt.isascii z && (Txt.isalpha z && (Txt.islower z && !kwL.contains z))
def toS (l : List Nat) : Str := ⟨l.toArray⟩
/-- the last t letters of the word with an index -/
def sfx : Nat → Nat → List Nat
  | 0, _ => []
  | t + 1, i => (97 + (i / 26 ^ t) % 26) :: sfx t i
theorem sfx_len : ∀ t i, (sfx t i).length = t
  | 0, _ => rfl
  | t + 1, i => by
    show (sfx t i).length + 1 = t + 1
    rw [sfx_len t i]
theorem toS_len (l : List Nat) : (toS l).length = l.length := by
  show l.toArray.size = l.length
  exact List.size_toArray ..
theorem toS_cons (c : Nat) (l : List Nat) : (⟨#[c]⟩ : Str) ++ toS l = toS (c :: l) := by
  show (⟨#[c] ++ l.toArray⟩ : Str) = ⟨(c :: l).toArray⟩
  rw [show #[c] ++ l.toArray = (c :: l).toArray by simp]
theorem az_at {k : Nat} (h : k < 26) : atI az.cps.toList (k : Int) = some (97 + k) := by
  have q : ∀ k : Fin 26, az.cps.toList[k.1]? = some (97 + k.1) := by decide +kernel
  exact atI_nat (q ⟨k, h⟩)
theorem az_len : az.length = 26 := by decide +kernel
theorem inV_strs (x : Str) : ∀ ys : List Str, inV (.str x) (ys.map V.str) = ys.contains x
  | [] => rfl
  | y :: ys => by
    have ih := inV_strs x ys
    unfold inV at ih ⊢
    rw [List.map_cons, List.any_cons, ih, List.contains_cons]
    rw [show eqV (.str y) (.str x) = (y == x) from rfl]
    rw [show (y == x) = (x == y) from Bool.eq_iff_iff.mpr ⟨fun h => beq_iff_eq.mpr (beq_iff_eq.mp h).symm, fun h => beq_iff_eq.mpr (beq_iff_eq.mp h).symm⟩]
theorem flat_strs (ys : List Str) : (ys.map V.str).all flatV = true := by
  rw [List.all_map]
  exact List.all_eq_true.mpr fun _ _ => rfl
end My
/-! part SetR -/
namespace My
open PySem PySem.Spec PyProof.Rows L2
section
variable {X : Cx}
theorem lawful_key : LawfulBEq Key where
  eq_of_beq {a b} h := by
    cases a <;> cases b
    · exact congrArg Sum.inl (eq_of_beq (α := Int) h)
    · cases h
    · cases h
    · exact congrArg Sum.inr (eq_of_beq (α := Str) h)
  rfl {a} := by
    cases a
    · exact beq_self_eq_true (α := Int) _
    · exact beq_self_eq_true (α := Str) _
theorem key_of_str {P : Program} {w : World} : ∀ {xs : List Str} {us : List Value}, Vals (xs.map V.str) us → ∀ (i : Nat) (v : Value), us.toArray[i]? = some v → ∃ k : Key, (xs.map Sum.inr)[i]? = some k ∧ (mixKind P w).is k v = true ∧ v.scannable = true
  | [], _, .nil, i, v, h => by simp at h
  | x :: xs, _, .cons r t, 0, v, h => by
    obtain ⟨t, rfl⟩ := r
    have e : Value.str x t = v := by simpa using h
    subst e
    exact ⟨.inr x, rfl, mixKind_str P w x t, rfl⟩
  | x :: xs, _,   .cons r t, i + 1, v, h => by
    obtain ⟨k, h1, h2⟩ := key_of_str (P := P) (w := w) t i v (by simpa using h)
    exact ⟨k, by simpa using h1, h2⟩
/-- set(x), x a list or tuple of texts: new, its members are those -/
def rSetS (K : PySem.W.Frag) (P : Program) (w : World) : List V → Hp → VK → Prop := fun vs H Q => ∃ (l : Addr) (xs : List Str), vs = [.ref l] ∧ (SqL K H l (xs.map V.str) ∨ SqT K H l (xs.map V.str)) ∧ xs.length ≤ 4000 ∧
  ∀ (a : Addr) (S : Key → Bool) (n : Nat), H a = none → (∀ x : Str, S (.inr x) = xs.contains x) → Q (.ref a) (upd H a (SetK P w a S n))
theorem cr_setS (hc : X.calm = true) : CallR X (.type "set") (rSetS X.K X.prog X.w) := by
  intro pins s σ H vs us Q I r h
  obtain ⟨l, xs, rfl, hs, hn, q⟩ := h
  rw [Vals.ref1 r]
  have go : ∀ its : List Value, Vals (xs.map V.str) its → (s.heap.IsList l its.toArray ∨ s.heap.IsTuple l its.toArray) → wpAny (model X.prog X.w) X.A (call (.type "set") [.ref l]) (EP X pins σ Q) X.xe s := fun its rv src => by
    haveI : LawfulBEq Key := lawful_key
    have e : its.length = xs.length := by rw [← rv.length, List.length_map]
    refine set_of (knd := mixKind X.prog X.w) l its.toArray (xs.map Sum.inr) (I.ok.hd hc) src (by rw [List.size_toArray, e]; unfold scanBound; omega) (key_of_str rv) fun h t m k => ?_
    obtain ⟨S, n, so, _, mem⟩ := m
    have hf : H s.heap.objs.size = none := I.hok.fresh (Nat.le_refl _)
    refine ⟨.ref s.heap.objs.size, _, I.laid (t' := t) (fun b o e => k b o (Heap.lt_size e) e) (Nat.le_refl _) (setK_new so), rfl, q _ S n hf fun x => ?_⟩
    rw [Bool.eq_iff_iff, mem, List.size_toArray, e, List.take_of_length_le (by rw [List.length_map]; exact Nat.le_refl _), List.contains_iff_mem, List.mem_map]
    exact ⟨fun ⟨y, hy, z⟩ => by cases z; exact hy, fun hy => ⟨x, hy, rfl⟩⟩
  rcases hs with hs | hs
  · obtain ⟨its, rv, p, _⟩ := I.list hs
    exact go its rv (.inl p.isList)
  · obtain ⟨its, rv, p, _⟩ := I.tuple hs
    exact go its rv (.inr p)
end
end My
/-! part Kit5 -/
namespace My
open PySem PySem.Spec PyProof.Rows L2
/-- the words of L letters, in order -/
def ws (L : Nat) : List Str := (List.range (26 ^ L)).map fun i => toS (sfx L i)
def okW (avoid : List Str) (z : Str) : Bool := nameB z && !avoid.contains z
/-- the words of fewer than L + 1 letters -/
def pre (L : Nat) : List Str := (List.range L).flatMap fun t => ws (t + 1)
/-- the first so many names that are not to be avoided -/
def fresh (many : Nat) (avoid : List Str) : List Str := ((pre 6).filter (okW avoid)).take many
theorem pre_succ (L : Nat) : pre (L + 1) = pre L ++ ws (L + 1) := by
  unfold pre
  rw [List.range_succ, List.flatMap_append, List.flatMap_singleton]
theorem pre_le {L : Nat} (h : L ≤ 6) : ∃ r, pre 6 = pre L ++ r := by
  have go : ∀ d : Nat, ∃ r, pre (L + d) = pre L ++ r := fun d => by
    induction d with
    | zero => exact ⟨[], by simp⟩
    | succ d ih =>
      obtain ⟨r, e⟩ := ih
      exact ⟨r ++ ws (L + d + 1), by rw [← Nat.add_assoc, pre_succ, e, List.append_assoc]⟩
  obtain ⟨r, e⟩ := go (6 - L)
  rw [show L + (6 - L) = 6 by omega] at e
  exact ⟨r, e⟩
theorem ws_get {L i : Nat} (h : i < 26 ^ L) : (ws L)[i]? = some (toS (sfx L i)) := by
  unfold ws
  rw [List.getElem?_map, List.getElem?_range h] <;> rfl
theorem ws_len (L : Nat) : (ws L).length = 26 ^ L := by
  unfold ws
  rw [List.length_map, List.length_range]
theorem take_front {many : Nat} {f : Str → Bool} (u v : List Str) (h : (u.filter f).length = many) : u.filter f = ((u ++ v).filter f).take many := by
  rw [List.filter_append, List.take_append_of_le_length (by rw [h]; exact Nat.le_refl _), List.take_of_length_le (by rw [h]; exact Nat.le_refl _)]
/-- a first part of what is gone through that has enough -/
theorem fresh_enough {many L j : Nat} {avoid : List Str} (hL : L < 6) (hj : ((pre L ++ (ws (L + 1)).take j).filter (okW avoid)).length = many) :
    (pre L ++ (ws (L + 1)).take j).filter (okW avoid) = fresh many avoid := by
  obtain ⟨r, e⟩ := pre_le (show L + 1 ≤ 6 by omega)
  have c : pre 6 = (pre L ++ (ws (L + 1)).take j) ++ ((ws (L + 1)).drop j ++ r) := by
    rw [e, pre_succ, List.append_assoc, List.append_assoc, ← List.append_assoc ((ws (L + 1)).take j), List.take_append_drop]
  unfold fresh
  rw [c]
  exact take_front _ _ hj
theorem fresh_end {many : Nat} {avoid : List Str} (h : ((pre 6).filter (okW avoid)).length ≤ many) : (pre 6).filter (okW avoid) = fresh many avoid := by
  unfold fresh
  rw [List.take_of_length_le h]
theorem fresh_len (many : Nat) (avoid : List Str) : (fresh many avoid).length ≤ many := by
  unfold fresh
  rw [List.length_take]
  omega
theorem sfx_mem : ∀ (t i c : Nat), c ∈ sfx t i → 97 ≤ c ∧ c < 123
  | 0, _, c, h => by cases h
  | t + 1, i, c, h => by
    rcases List.mem_cons.mp h with e | e
    · have q : i / 26 ^ t % 26 < 26 := Nat.mod_lt _ (by decide)
      rw [e]
      omega
    · exact sfx_mem t i c e
def spFresh (K : PySem.W.Frag) : Sp := fun vs H Q _ => ∃ (many : Nat) (l : Addr) (xs : List Str), vs = [.int many, .ref l] ∧ (SqL K H l (xs.map V.str) ∨ SqT K H l (xs.map V.str)) ∧ xs.length ≤ 4000 ∧ many ≤ 1000000 ∧
  ∀ (H' : Hp) (p : Addr), Same H H' → H p = none → H' p = some (.lst ((fresh many xs).map V.str)) → Q (.ref p) H'
end My
/-! part Kit6 -/
namespace My
open PySem PySem.Spec PyProof.Rows L2
theorem cut_to (xs : List V) (n : Nat) : cutV xs none (some (n : Int)) = xs.take n := by
  unfold cutV
  rw [HT.sIx_none, show HT.sIx xs.length xs.length (some (n : Int)) = min n xs.length from HT.sIx_nat xs.length xs.length n, List.drop_zero, Nat.sub_zero]
  rw [List.take_eq_take_iff]
  omega
theorem cut_mid (xs : List V) (m n : Nat) (h1 : m ≤ n) (h2 : n ≤ xs.length) : cutV xs (some (m : Int)) (some (n : Int)) = (xs.drop m).take (n - m) := by
  unfold cutV
  rw [show HT.sIx xs.length 0 (some (m : Int)) = min m xs.length from HT.sIx_nat xs.length 0 m, show HT.sIx xs.length xs.length (some (n : Int)) = min n xs.length from HT.sIx_nat xs.length xs.length n, Nat.min_eq_left (Nat.le_trans h1 h2), Nat.min_eq_left h2]
/-! ### the law's own words -/
def c26 : List Nat := (List.range 26).map (97 + ·)
def lw1 : List (List Nat) := c26.map fun x => [x]
def lw2 : List (List Nat) := c26.flatMap fun x => c26.map fun y => [x, y]
def lw3 : List (List Nat) := [97, 98].flatMap fun x => c26.flatMap fun y => c26.map fun z => [x, y, z]
def lawW : List Str := ((lw1 ++ lw2 ++ lw3).map toS).filter fun z => !kwL.contains z
theorem az_cps : az.cps.toList = c26 := by decide +kernel
def spWords : Sp := fun vs H Q _ => ∃ many : Nat, vs = [.int many] ∧ ∀ (H' : Hp) (p : Addr), Same H H' → H p = none → H' p = some (.lst ((lawW.take many).map V.str)) → Q (.ref p) H'
def spKw : Sp := fun vs H Q _ => vs = [] ∧ ∀ (H' : Hp) (p : Addr), Same H H' → H p = none → H' p = some (.lst (kwL.map V.str)) → Q (.ref p) H'
def spAz : Sp := fun vs H Q _ => vs = [] ∧ Q (.str az) H
end My
/-! part Kit7 -/
namespace My
open PySem PySem.Spec PyProof.Rows L2
section
variable {J : It} {n : Nat} {G : Hp → Prop} {Y : Nat → Hp → V → Hp → Prop} {g : TG} {tt : TT} {te : TE} {vs : List Nat} {σ : L2.St} {H1 : Hp} {D : Addr} {Qd : Hp → Prop}
/-- a comprehension whose i-th item gives `out i`, nothing for none: the new list of what was given -/
theorem lc_gen (w : Walk J n G Y) (out : Nat → Option V) (small : n < sizeLine) (nD : H1 D = none) (hG : ∀ H', Same H1 H' → G H')
    (hs : ∀ (i : Nat) (x : V) (H H' : Hp) (R : V → Hp → Prop) (Rn : Hp → Prop), i < n → Same H1 H → Y i H x H' → (∀ y, out i = some y → ∀ H4, Same H H4 → R y H4) → (out i = none → ∀ H4, Same H H4 → Rn H4) →
      g x (wipe σ vs) H' fun σ2 H2 => wipe σ2 vs = wipe σ vs ∧ tt σ2 H2 fun b H3 => if b = true then te σ2 H3 R else Rn H3)
    (hd : ∀ H', Same H1 H' → H' D = some (.lst ((List.range n).filterMap out)) → Qd H') :
    ∃ W : Nat → Nat → Hp → Prop, (∃ m, W 0 m (upd H1 D (.lst []))) ∧ ∀ i m H, W i m H →
      (J.stop i H ∧ Qd H) ∨ (J.go i H ∧ ∃ Nx : Hp → Prop, (∀ H', Nx H' → ∃ m', m' < m ∧ W (i + 1) m' H') ∧ ∀ x H', J.yld i H x H' → g x (wipe σ vs) H' fun σ2 H2 => wipe σ2 vs = wipe σ vs ∧ tt σ2 H2 fun b H3 =>
        if b = true then te σ2 H3 fun y H4 => ∃ acc, H4 D = some (.lst acc) ∧ acc.length < sizeLine ∧ Nx (upd H4 D (.lst (acc ++ [y]))) else Nx H3) := by
  have bound : ∀ i, ((List.range i).filterMap out).length ≤ i := fun i => Nat.le_trans (List.length_filterMap_le ..) (by rw [List.length_range]; exact Nat.le_refl _)
  have step : ∀ i, (List.range (i + 1)).filterMap out = (List.range i).filterMap out ++ (match out i with | some y => [y] | none => []) := fun i => by
    rw [List.range_succ, List.filterMap_append]
    cases h : out i with
    | none => rw [List.filterMap_cons_none h, List.filterMap_nil]
    | some y => rw [List.filterMap_cons_some h, List.filterMap_nil]
  refine lc_it w (fun i H => Same H1 H ∧ H D = some (.lst ((List.range i).filterMap out))) ⟨same_new nD _, upd_same⟩ (fun i H _ p => hG H p.1) (fun i x H H' hi p y => ?_) (fun H p => hd H p.1 p.2)
  refine hs i x H H' _ _ hi p.1 y (fun z e H4 s => ?_) (fun e H4 s => ?_)
  · refine ⟨_, s _ _ p.2, Nat.lt_of_le_of_lt (bound i) (Nat.lt_trans hi small), fun b o q => ?_, ?_⟩
    · rw [upd_ne (ne_of_none q nD)]
      exact s _ _ (p.1 _ _ q)
    · rw [upd_same, step, e]
  · refine ⟨p.1.trans s, ?_⟩
    rw [step, e, List.append_nil]
    exact s _ _ p.2
/-- a comprehension whose items are only known to be Ok -/
theorem lc_rel (w : Walk J n G Y) (Ok : Nat → V → Hp → Prop) (small : n < sizeLine) (nD : H1 D = none) (hG : ∀ H', Same H1 H' → G H') (mono : ∀ i y H H', (∀ b o, b ≠ D → H b = some o → H' b = some o) → Ok i y H → Ok i y H')
    (hs : ∀ (i : Nat) (x : V) (H H' : Hp) (R : V → Hp → Prop) (Rn : Hp → Prop), i < n → Same H1 H → H D ≠ none → Y i H x H' → (∀ y H4, Same H H4 → Ok i y H4 → R y H4) →
      g x (wipe σ vs) H' fun σ2 H2 => wipe σ2 vs = wipe σ vs ∧ tt σ2 H2 fun b H3 => if b = true then te σ2 H3 R else Rn H3)
    (hd : ∀ H' ys, Same H1 H' → ys.length = n → (∀ i y, ys[i]? = some y → Ok i y H') → H' D = some (.lst ys) → Qd H') :
    ∃ W : Nat → Nat → Hp → Prop, (∃ m, W 0 m (upd H1 D (.lst []))) ∧ ∀ i m H, W i m H →
      (J.stop i H ∧ Qd H) ∨ (J.go i H ∧ ∃ Nx : Hp → Prop, (∀ H', Nx H' → ∃ m', m' < m ∧ W (i + 1) m' H') ∧ ∀ x H', J.yld i H x H' → g x (wipe σ vs) H' fun σ2 H2 => wipe σ2 vs = wipe σ vs ∧ tt σ2 H2 fun b H3 =>
        if b = true then te σ2 H3 fun y H4 => ∃ acc, H4 D = some (.lst acc) ∧ acc.length < sizeLine ∧ Nx (upd H4 D (.lst (acc ++ [y]))) else Nx H3) := by
  refine lc_it w (fun i H => Same H1 H ∧ ∃ ys : List V, ys.length = i ∧ (∀ k y, ys[k]? = some y → Ok k y H) ∧ H D = some (.lst ys)) ?_ (fun i H _ p => hG H p.1) (fun i x H H' hi p y => ?_) (fun H p => ?_)
  · exact ⟨same_new nD _, [], rfl, fun k y h => by simp at h, upd_same⟩
  · obtain ⟨s1, ys, rfl, ok, e⟩ := p
    refine hs ys.length x H H' _ _ hi s1 (by rw [e]; exact fun z => nomatch z) y fun z H4 s o4 => ?_
    refine ⟨_, s _ _ e, Nat.lt_trans hi small, fun b o q => ?_, ys ++ [z], by rw [List.length_append, List.length_singleton], fun k u hu => ?_, upd_same⟩
    · rw [upd_ne (ne_of_none q nD)]
      exact s _ _ (s1 _ _ q)
    · have back : ∀ b o, b ≠ D → H4 b = some o → upd H4 D (.lst (ys ++ [z])) b = some o := fun b o hb q => by rw [upd_ne hb]; exact q
      by_cases hk : k < ys.length
      · rw [List.getElem?_append_left hk] at hu
        exact mono k u _ _ back (mono k u _ _ (fun b o _ q => s b o q) (ok k u hu))
      · rw [List.getElem?_append_right (by omega)] at hu
        have k0 : k = ys.length := by
          have := (List.getElem?_eq_some_iff.mp hu).1
          rw [List.length_singleton] at this
          omega
        subst k0
        rw [Nat.sub_self] at hu
        obtain rfl : z = u := Option.some.inj hu
        exact mono _ _ _ _ back o4
  · obtain ⟨s1, ys, h2, ok, e⟩ := p
    exact hd H ys s1 h2 ok e
end
end My
/-! part Kit8 -/
namespace My
open PySem PySem.Spec PyProof.Rows L2
theorem range_items {α β : Type} (l : List α) (f : α → Option β) (k : Nat) : (List.range k).filterMap (fun i => (l[i]?).bind f) = (l.take k).filterMap f := by
  induction k with
  | zero => rfl
  | succ k ih =>
    rw [List.range_succ, List.filterMap_append, ih, List.take_add_one, List.filterMap_append]
    congr 1
    cases h : l[k]? with
    | none =>
      rw [List.filterMap_cons_none (by show (l[k]?).bind f = none; rw [h] <;> rfl)]
      rfl
    | some x =>
      show [k].filterMap (fun i => (l[i]?).bind f) = [x].filterMap f
      cases h2 : f x with
      | none => rw [List.filterMap_cons_none (by show (l[k]?).bind f = none; rw [h]; exact h2), List.filterMap_cons_none h2]; rfl
      | some y => rw [List.filterMap_cons_some (b := y) (by show (l[k]?).bind f = some y; rw [h]; exact h2), List.filterMap_cons_some h2]; rfl
theorem range_all {α β : Type} (l : List α) (f : α → Option β) : (List.range l.length).filterMap (fun i => (l[i]?).bind f) = l.filterMap f := by
  rw [range_items, List.take_of_length_le (Nat.le_refl _)]
theorem filterMap_some {α β : Type} (f : α → β) : ∀ l : List α, l.filterMap (fun x => some (f x)) = l.map f
  | [] => rfl
  | x :: l => by
    rw [List.filterMap_cons_some (f := fun x => some (f x)) (b := f x) rfl, filterMap_some f l]
    rfl
theorem toS_app (a b : List Nat) : toS a ++ toS b = toS (a ++ b) := by
  show (⟨a.toArray ++ b.toArray⟩ : Str) = ⟨(a ++ b).toArray⟩
  rw [List.append_toArray]
def vS (l : List (List Nat)) : List V := l.map fun x => V.str (toS x)
theorem vS_len (l : List (List Nat)) : (vS l).length = l.length := List.length_map _
theorem vS_app (a b : List (List Nat)) : vS a ++ vS b = vS (a ++ b) := by
  unfold vS
  rw [List.map_append]
theorem vS_get {l : List (List Nat)} {i : Nat} {x : List Nat} (h : l[i]? = some x) : (vS l)[i]? = some (.str (toS x)) := by
  unfold vS
  rw [List.getElem?_map, h]
  rfl
theorem c26_len : c26.length = 26 := by decide
theorem az_size : az.cps.size = 26 := by decide +kernel
theorem az_getA (i : Nat) : az.cps[i]? = c26[i]? := by
  rw [← az_cps, Array.getElem?_toList]
end My
/-! part Kit9 -/
namespace My
open PySem PySem.Spec PyProof.Rows L2
/-- each word with each letter behind -/
def ext1 (l : List (List Nat)) : List (List Nat) := l.flatMap fun a => c26.map fun b => a ++ [b]
theorem ext1_len : ∀ l : List (List Nat), (ext1 l).length = 26 * l.length
  | [] => rfl
  | a :: l => by
    show (c26.map (fun b => a ++ [b]) ++ ext1 l).length = 26 * (l.length + 1)
    rw [List.length_append, List.length_map, ext1_len l, c26_len]
    omega
theorem ext1_app (l m : List (List Nat)) : ext1 (l ++ m) = ext1 l ++ ext1 m := by
  unfold ext1
  rw [List.flatMap_append]
theorem ext1_one (a : List Nat) : ext1 [a] = c26.map fun b => a ++ [b] := by
  unfold ext1
  rw [List.flatMap_singleton]
theorem ext1_nil : ext1 [[]] = lw1 := by decide +kernel
theorem ext1_lw1 : ext1 lw1 = lw2 := by decide +kernel
theorem ext1_ab : ext1 (ext1 [[97], [98]]) = lw3 := by decide +kernel
theorem lw1_len : lw1.length = 26 := by decide
theorem lw2_len : lw2.length = 676 := by decide +kernel
theorem vS_c26 (a : List Nat) : c26.map (fun c => V.str (toS (a ++ [c]))) = vS (ext1 [a]) := by
  rw [ext1_one]
  unfold vS
  rw [List.map_map]
  rfl
theorem take_snoc {α : Type} {l : List α} {i : Nat} {x : α} (h : l[i]? = some x) : l.take (i + 1) = l.take i ++ [x] := by
  rw [List.take_add_one, h]
  rfl
theorem ab_cps : (Str.ofString "ab").cps.toList = [97, 98] := by decide +kernel
end My
namespace My
open PySem PySem.Spec PyProof.Rows L2
theorem ab_size : (Str.ofString "ab").cps.size = 2 := by decide +kernel
theorem kw_filter : ∀ l : List (List Nat), l.filterMap (fun x => if kwL.contains (toS x) = true then none else some (V.str (toS x))) = ((l.map toS).filter fun z => !kwL.contains z).map V.str
  | [] => rfl
  | x :: l => by
    have ih := kw_filter l
    cases h : kwL.contains (toS x) with
    | true =>
      rw [List.filterMap_cons_none (by rw [h] <;> rfl), List.map_cons, List.filter_cons_of_neg (by rw [h]; exact Bool.false_ne_true), ih]
    | false =>
      rw [List.filterMap_cons_some (b := .str (toS x)) (by rw [h] <;> rfl), List.map_cons, List.filter_cons_of_pos (by rw [h] <;> rfl), ih, List.map_cons]
end My
/-! part KitA -/
namespace My
open PySem PySem.Spec PyProof.Rows L2
theorem letter_ok {c : Nat} (h1 : 97 ≤ c) (h2 : c < 123) : Unicode.isAlpha c = true ∧ Unicode.isLower c = true ∧ Unicode.isUpper c = false ∧ Unicode.isTitle c = false ∧ c < 128 := by
  have q : ∀ k : Fin 26, Unicode.isAlpha (97 + k.1) = true ∧ Unicode.isLower (97 + k.1) = true ∧ Unicode.isUpper (97 + k.1) = false ∧ Unicode.isTitle (97 + k.1) = false ∧ 97 + k.1 < 128 := by decide +kernel
  have e : c = 97 + (c - 97) := by omega
  rw [e]
  exact q ⟨c - 97, by omega⟩
/-- a word of letters is a name unless it is a keyword -/
theorem nameB_word {l : List Nat} (h0 : 0 < l.length) (h6 : l.length ≤ 6) (h : ∀ c ∈ l, 97 ≤ c ∧ c < 123) : nameB (toS l) = !kwL.contains (toS l) := by
  have a1 : Txt.isascii (toS l) = true := by
    show l.toArray.all (fun c => decide (c < 128)) = true
    rw [List.all_toArray]
    exact List.all_eq_true.mpr fun c hc => decide_eq_true (letter_ok (h c hc).1 (h c hc).2).2.2.2.2
  have a2 : Txt.isalpha (toS l) = true := by
    show (decide ((toS l).length > 0) && l.toArray.all Unicode.isAlpha) = true
    rw [List.all_toArray, toS_len, decide_eq_true h0]
    exact List.all_eq_true.mpr fun c hc => (letter_ok (h c hc).1 (h c hc).2).1
  have a3 : Txt.islower (toS l) = true := by
    show (l.toArray.any Unicode.isLower && !l.toArray.any fun c => Unicode.isUpper c || Unicode.isTitle c) = true
    rw [List.any_toArray, List.any_toArray]
    have b1 : l.any Unicode.isLower = true := by
      cases l with
      | nil => exact absurd h0 (by decide)
      | cons c r => exact List.any_eq_true.mpr ⟨c, List.mem_cons_self, (letter_ok (h c List.mem_cons_self).1 (h c List.mem_cons_self).2).2.1⟩
    have b2 : (l.any fun c => Unicode.isUpper c || Unicode.isTitle c) = false := List.any_eq_false.mpr fun c hc => by
      have q := letter_ok (h c hc).1 (h c hc).2
      rw [q.2.2.1, q.2.2.2.1]
      exact Bool.false_ne_true
    rw [b1, b2]
    rfl
  unfold nameB
  rw [if_neg (by rw [toS_len]; omega), a1, a2, a3]
  rfl
def lwAll : List (List Nat) := lw1 ++ lw2 ++ lw3
theorem lw_ok : lwAll.all (fun l => decide (0 < l.length) && decide (l.length ≤ 6) && l.all fun c => decide (97 ≤ c) && decide (c < 123)) = true := by decide +kernel
theorem lw_word {l : List Nat} (h : l ∈ lwAll) : nameB (toS l) = !kwL.contains (toS l) := by
  have q := List.all_eq_true.mp lw_ok l h
  simp only [Bool.and_eq_true, decide_eq_true_eq, List.all_eq_true] at q
  exact nameB_word q.1.1 q.1.2 fun c hc => q.2 c hc
theorem ws_eq {L : Nat} {l : List (List Nat)} {n : Nat} (h : (List.range n).map (sfx L) = l) (hn : n ≤ 26 ^ L) : (ws L).take n = l.map toS := by
  unfold ws
  rw [← List.map_take, List.take_range, Nat.min_eq_left hn, ← h, List.map_map]
  rfl
theorem pre_front : ∃ r, pre 6 = lwAll.map toS ++ r := by
  obtain ⟨r, e⟩ := pre_le (show 3 ≤ 6 by decide)
  have e1 : ws 1 = lw1.map toS := by
    rw [← ws_eq (L := 1) (n := 26) (l := lw1) (by decide +kernel) (by decide), List.take_of_length_le (by rw [ws_len]; decide)]
  have e2 : ws 2 = lw2.map toS := by
    rw [← ws_eq (L := 2) (n := 676) (l := lw2) (by decide +kernel) (by decide), List.take_of_length_le (by rw [ws_len]; decide)]
  have e3 : (ws 3).take 1352 = lw3.map toS := ws_eq (by decide +kernel) (by decide)
  refine ⟨(ws 3).drop 1352 ++ r, ?_⟩
  rw [e, show pre 3 = ws 1 ++ ws 2 ++ ws 3 by rw [pre_succ 2, pre_succ 1, pre_succ 0]; rfl]
  unfold lwAll
  rw [List.map_append, List.map_append, ← e1, ← e2, ← e3, ← List.append_assoc, List.append_assoc (ws 1 ++ ws 2) _ ((ws 3).drop 1352), List.take_append_drop]
theorem name_front : ∃ r, (pre 6).filter nameB = lawW ++ r := by
  obtain ⟨r, e⟩ := pre_front
  refine ⟨r.filter nameB, ?_⟩
  rw [e, List.filter_append]
  congr 1
  unfold lawW
  show _ = (lwAll.map toS).filter _
  refine List.filter_congr fun z hz => ?_
  obtain ⟨l, hl, rfl⟩ := List.mem_map.mp hz
  exact lw_word hl
/-! no word twice -/
def code (l : List Nat) : Nat := l.foldl (fun a c => a * 27 + (c - 96)) 0
def upB : List Nat → Bool
  | [] => true
  | [_] => true
  | a :: b :: r => decide (a < b) && upB (b :: r)
theorem up_pw : ∀ {l : List Nat}, upB l = true → l.Pairwise (· < ·)
  | [], _ => .nil
  | [a], _ => List.pairwise_singleton ..
  | a :: b :: r, h => by
    have h : (decide (a < b) && upB (b :: r)) = true := h
    rw [Bool.and_eq_true, decide_eq_true_eq] at h
    have ih := up_pw h.2
    refine List.pairwise_cons.mpr ⟨fun c hc => ?_, ih⟩
    rcases List.mem_cons.mp hc with e | e
    · rw [e]; exact h.1
    · exact Nat.lt_trans h.1 ((List.pairwise_cons.mp ih).1 c e)
theorem lw_chain : upB (lwAll.map code) = true := by decide +kernel
theorem toS_inj {a b : List Nat} (h : toS a = toS b) : a = b := by
  have q : a.toArray = b.toArray := congrArg Str.cps h
  simpa using q
theorem lw_nodup : (lwAll.map toS).Nodup := by
  have p : (lwAll.map code).Pairwise (· < ·) := up_pw lw_chain
  refine List.pairwise_map.mpr ((List.pairwise_map.mp p).imp fun {a b} h e => ?_)
  have q : a = b := toS_inj e
  rw [q] at h
  exact Nat.lt_irrefl _ h
theorem lawW_nodup : lawW.Nodup := List.Pairwise.filter _ lw_nodup
theorem lawW_len : lawW.length = 2052 := by decide +kernel
/-- of different words at most as many are avoided as there are to avoid -/
theorem left_over : ∀ (av : List Str) (l : List Str), l.Nodup → l.length ≤ (l.filter fun z => !av.contains z).length + av.length
  | [], l, _ => by
    have e : (l.filter fun z => !([] : List Str).contains z) = l := List.filter_eq_self.mpr fun _ _ => rfl
    rw [e]
    exact Nat.le_refl _
  | a :: av, l, h => by
    have e : (l.filter fun z => !(a :: av).contains z) = (l.filter fun z => z != a).filter fun z => !av.contains z := by
      rw [List.filter_filter]
      refine List.filter_congr fun z _ => ?_
      rw [List.contains_cons, Bool.not_or, Bool.and_comm]
      rfl
    have ih := left_over av (l.filter fun z => z != a) (List.Pairwise.filter _ h)
    have k : l.length ≤ (l.filter fun z => z != a).length + 1 := by
      rw [← List.Nodup.erase_eq_filter h, List.length_erase]
      split <;> omega
    rw [e, List.length_cons]
    omega
theorem fresh_law {many : Nat} {av : List Str} (h : many + av.length ≤ 1400) : fresh many av = ((lawW.take 1400).filter fun z => !av.contains z).take many := by
  obtain ⟨r, e⟩ := name_front
  have e2 : (pre 6).filter (okW av) = ((pre 6).filter nameB).filter fun z => !av.contains z := by
    rw [List.filter_filter]
    refine List.filter_congr fun z _ => ?_
    unfold okW
    rw [Bool.and_comm]
  unfold fresh
  rw [e2, e, show lawW ++ r = lawW.take 1400 ++ (lawW.drop 1400 ++ r) by rw [← List.append_assoc, List.take_append_drop], List.filter_append, List.take_append_of_le_length]
  have q := left_over av (lawW.take 1400) (lawW_nodup.sublist (List.take_sublist ..))
  rw [List.length_take, lawW_len] at q
  omega
end My
/-! part KitK -/
/-! calls by keywords alone -/
namespace My
open PySem PySem.Spec PyProof.Rows L2
/-- the items at these places -/
def pick {α : Type} (is : List Nat) (xs : List α) : List α := is.filterMap fun i => xs[i]?
theorem pick_rel : ∀ (is : List Nat) {zs : List V} {ws : List Value}, Vals zs ws → Vals (pick is zs) (pick is ws)
  | [], _, _, _ => .nil
  | i :: is, zs, ws, r => by
    have ih := pick_rel is r
    cases h : zs[i]? with
    | none =>
      have h2 := r.none_of h
      unfold pick
      rw [List.filterMap_cons_none h, List.filterMap_cons_none h2]
      exact ih
    | some v =>
      obtain ⟨u, h2, rv⟩ := r.get h
      unfold pick
      rw [List.filterMap_cons_some h, List.filterMap_cons_some h2]
      exact .cons rv ih
section
variable {K : PySem.W.Frag} {x qual : Str} {st : Stmt} {f : Addr} {fd : FuncData} {ps ks : List Str}
/-- how keywords bind: positional values first, then by the places `is` of the keywords -/
theorem kbn_of (F : L2.Fun K x qual st f fd) (n : Nat) (is : List Nat)
    (h : ∀ (kV doc pm : Value) (an : Option Addr) (cdv ct : Value) (us ws : List Value), us.length = n → ws.length = ks.length → bindArgs (PySem.W.fnOf x qual (defArgs st) (defBody st) (defScope st) .none kV doc pm an cdv ct) ⟨us, ks.zip ws⟩ = pure (ps.zip (us ++ pick is ws))) :
    KBn K fd ps n ks (fun us ws => us ++ pick is ws) (fun vs zs => vs ++ pick is zs) := by
  obtain ⟨oc, od, kV, doc, pm, an, cdv, ct, osl, rfl, lk, hcd⟩ := F.ex
  exact ⟨fun s us ws _ h1 h2 => .of_eq (h kV doc pm an cdv ct us ws h1 h2), fun r1 r2 => Vals.append r1 (pick_rel is r2)⟩
end
section
variable {X : Cx} {CX : CXT} {k n : Nat} {f : Addr} {fd : FuncData} {ps ks : List Str} {sp : Sp} {g : List Value → List Value → List Value} {gV : List V → List V → List V} {E : XK} {x : Str} {p pos : Pos} {kws : List Keyword} {tk : TA}
theorem pe_callK0 (F : FnOk X.prog X.w X.K X.mg X.base CX k f fd ps sp) (hr : Room k X.A) (hg : Gl X x) (hm : X.mg x = some (.ref f)) (hk : PySem.W.keepIn X.K (.ref f) = true) (hb : KBn X.K fd ps 0 ks g gV) (hx : Passes CX X E) (hkw : PK X kws tk)
    (hall : (backToKw pos (keywordEach kws X.env)).all (·.1.isSome) = true := by rfl) (hks : (backToKw pos (keywordEach kws X.env)).filterMap (·.1) = ks := by rfl) (hdb : (x == ("__debug__" : Str)) = false := by decide)
    (hpl : ((backTo pos (starEach [] X.env)).any (·.1) || (backToKw pos (keywordEach kws X.env)).any (·.1.isNone)) = false := by rfl) : PE X (.Call (.Name x p) [] kws pos) (tCallN 0 ks.length sp gV E tNil tk) := by
  refine ⟨fun pins s σ H Q I h => wpAny_Call_Name_kw (ld_glob I hg hm (PySem.W.callWith_KW0 (h₀ := X.base) I.ok.mod.kin hk hall ?_ hpl) hdb)⟩
  refine thn (hkw.run pos pins s σ H _ I h) fun ws s2 ⟨zs, H2, I2, rz, l1, l2, q2⟩ => ⟨I2.kIn, ?_⟩
  rw [hks]
  exact run_fnN F hr hb hx I2 .nil rz l1 l2 q2
end
end My
/-! part KitB -/
namespace My
open PySem PySem.Spec PyProof.Rows L2
def spLaw (K : PySem.W.Frag) : Sp := fun vs H Q _ => ∃ (a : Addr) (ns : List Int), vs = [.ref a] ∧ SqL K H a (ns.map V.int) ∧ ns.length ≤ 63 ∧ ∀ H', Q (.bl true) H'
/-- a list of texts -/
theorem strs_of {ys : List V} (h : ∀ (i : Nat) (y : V), ys[i]? = some y → ∃ s : Str, y = .str s) : ∃ ss : List Str, ys = ss.map V.str ∧ ss.length = ys.length := by
  induction ys with
  | nil => exact ⟨[], rfl, rfl⟩
  | cons y ys ih =>
    obtain ⟨s, rfl⟩ := h 0 y rfl
    obtain ⟨ss, e, l⟩ := ih fun i z hz => h (i + 1) z hz
    exact ⟨s :: ss, by rw [List.map_cons, ← e], by rw [List.length_cons, List.length_cons, l]⟩
/-- the same texts in two lists -/
theorem eqv_strs {K : PySem.W.Frag} {H : Hp} {a b : Addr} {ss : List Str} (h1 : SqL K H a (ss.map V.str)) (h2 : SqL K H b (ss.map V.str)) (hs : ss.length < sizeLine) (n : Nat) : Eqv K H (n + 2) (.ref a) (.ref b) := by
  refine .inr (.inl ⟨a, b, _, _, rfl, rfl, h1, h2, rfl, by rw [List.length_map]; exact hs, fun i x y hx hy => ?_⟩)
  rw [hx] at hy
  obtain rfl : x = y := Option.some.inj hy
  rw [List.getElem?_map] at hx
  obtain ⟨s, _, rfl⟩ := Option.map_eq_some_iff.mp hx
  exact .inl ⟨rfl, rfl⟩
theorem eqv_scal {K : PySem.W.Frag} {H : Hp} {n : Nat} {v : V} (h : scalV v = true) : Eqv K H (n + 1) v v := .inl ⟨rfl, h⟩
/-- a written list of things that are alike -/
theorem eqv_list {K : PySem.W.Frag} {H : Hp} {a b : Addr} {xs ys : List V} {n : Nat} (h1 : SqL K H a xs) (h2 : SqL K H b ys) (hs : xs.length < sizeLine) (h : Paired (Eqv K H n) xs ys) : Eqv K H (n + 1) (.ref a) (.ref b) := by
  refine .inr (.inl ⟨a, b, xs, ys, rfl, rfl, h1, h2, Paired.length h, hs, ?_⟩)
  clear h1 h2 hs
  induction h with
  | nil => intro i x y hx; simp at hx
  | cons r t ih =>
    intro i x y hx hy
    cases i with
    | zero =>
      obtain rfl := Option.some.inj hx
      obtain rfl := Option.some.inj hy
      exact r
    | succ i => exact ih i x y hx hy
theorem eqv_tup {K : PySem.W.Frag} {H : Hp} {a b : Addr} {xs ys : List V} {n : Nat} (h1 : SqT K H a xs) (h2 : SqT K H b ys) (hs : xs.length < sizeLine) (h : Paired (Eqv K H n) xs ys) : Eqv K H (n + 1) (.ref a) (.ref b) := by
  refine .inr (.inr ⟨a, b, xs, ys, rfl, rfl, h1, h2, Paired.length h, hs, ?_⟩)
  clear h1 h2 hs
  induction h with
  | nil => intro i x y hx; simp at hx
  | cons r t ih =>
    intro i x y hx hy
    cases i with
    | zero =>
      obtain rfl := Option.some.inj hx
      obtain rfl := Option.some.inj hy
      exact r
    | succ i => exact ih i x y hx hy
theorem str_filter (av : List Str) : ∀ l : List Str, l.filterMap (fun z => if av.contains z = true then none else some (V.str z)) = (l.filter fun z => !av.contains z).map V.str
  | [] => rfl
  | x :: l => by
    have ih := str_filter av l
    cases h : av.contains x with
    | true => rw [List.filterMap_cons_none (by rw [h] <;> rfl), List.filter_cons_of_neg (by rw [h]; exact Bool.false_ne_true), ih]
    | false => rw [List.filterMap_cons_some (b := .str x) (by rw [h] <;> rfl), List.filter_cons_of_pos (by rw [h] <;> rfl), ih, List.map_cons]
theorem same_none {K : PySem.W.Frag} {P : Program} {w : World} {mg : Str → Option Value} {base : Heap} {f : Addr} {fd : FuncData} {a b : Str} : FnOk P w K mg base CX0 0 f fd [a, b] (spSame K 0) :=
  ⟨fun vs H Q E h => (by obtain ⟨_, _, _, z, _⟩ := h; exact z.elim), fun A outer s H args us vs Q E _ _ _ _ h => (by obtain ⟨_, _, _, z, _⟩ := h; exact z.elim)⟩
end My
/-! part KitC -/
namespace My
open PySem PySem.Spec PyProof.Rows L2
theorem dp_strs {K : PySem.W.Frag} {H : Hp} : ∀ ss : List Str, DpAll K H (ss.map V.str) (ss.map PyData.str)
  | [] => .nil
  | s :: ss => .cons (.str s) (dp_strs ss)
theorem lay_strs : ∀ ss : List Str, (∀ s ∈ ss, PyData.strOk s = true) → PyData.canLayAll0 (ss.map PyData.str) = true
  | [], _ => rfl
  | s :: ss, h => by
    show (PyData.canLay0 (.str s) && PyData.canLayAll0 (ss.map PyData.str)) = true
    rw [lay_strs ss fun z hz => h z (List.mem_cons_of_mem _ hz), show PyData.canLay0 (.str s) = PyData.strOk s from rfl, h s List.mem_cons_self]
    rfl
theorem depth_strs : ∀ ss : List Str, PyData.depthAll (ss.map PyData.str) = 0
  | [] => by simp [PyData.depthAll]
  | s :: ss => by
    have ih := depth_strs ss
    simp [PyData.depthAll, PyData.depth, ih]
theorem shaped_strs {ss : List Str} (h : ∀ s ∈ ss, PyData.strOk s = true) : SeqAt.shaped (.list (ss.map PyData.str)) = true := by
  have d : PyData.depth (.list (ss.map PyData.str)) = 1 := by simp [PyData.depth, depth_strs]
  show (PyData.canLayAll0 (ss.map PyData.str) && decide (PyData.depth (.list (ss.map PyData.str)) ≤ 64)) = true
  rw [lay_strs ss h, d]
  rfl
theorem eqv_same {ss : List Str} (h : ∀ s ∈ ss, PyData.strOk s = true) : PyData.eqv (.list (ss.map PyData.str)) (.list (ss.map PyData.str)) = true := SeqAt.eqv_refl _ (lay_strs ss h)
theorem lawW_strOk : lawW.all (fun s => PyData.strOk s) = true := by decide +kernel
theorem strs_ok {ys : List V} (h : ∀ (i : Nat) (y : V), ys[i]? = some y → ∃ s : Str, y = .str s ∧ PyData.strOk s = true) : ∃ ss : List Str, ys = ss.map V.str ∧ ss.length = ys.length ∧ ∀ s ∈ ss, PyData.strOk s = true := by
  induction ys with
  | nil => exact ⟨[], rfl, rfl, fun s h => by cases h⟩
  | cons y ys ih =>
    obtain ⟨s, rfl, k⟩ := h 0 y rfl
    obtain ⟨ss, e, l, o⟩ := ih fun i z hz => h (i + 1) z hz
    refine ⟨s :: ss, by rw [List.map_cons, ← e], by rw [List.length_cons, List.length_cons, l], fun z hz => ?_⟩
    rcases List.mem_cons.mp hz with u | u
    · rw [u]; exact k
    · exact o z u
theorem new_at {H H' : Hp} {p : Addr} {o : HO} (hX : upd H p o = H') (np : H p = none) : Same H H' ∧ H' p = some o := by
  subst hX
  exact ⟨same_new np o, upd_same⟩
theorem same_over {H H' : Hp} {p : Addr} (s : Same H H') (n : H p = none) (o : HO) : Same H (upd H' p o) := fun b u e => by
  rw [upd_ne (ne_of_none e n)]
  exact s _ _ e
abbrev ww : List Str := lawW.take 1400
theorem ww_len : ww.length = 1400 := by
  show (lawW.take 1400).length = 1400
  rw [List.length_take, lawW_len]
  rfl
theorem late_all {m : Nat} (h : m ≤ 1400) : fresh m [] = ww.take m := by
  rw [fresh_law (by simpa using h)]
  have e : (ww.filter fun z => !([] : List Str).contains z) = ww := List.filter_eq_self.mpr fun _ _ => rfl
  rw [show (lawW.take 1400) = ww from rfl, e]
theorem late_mid {m : Nat} (h : 28 ≤ m) : ((ww.take m).drop 25).take 3 = [Str.ofString "z", Str.ofString "aa", Str.ofString "ab"] := by
  rw [List.drop_take, List.take_take, Nat.min_eq_left (by omega)]
  decide +kernel
theorem late_kw {m : Nat} {k : Str} (h : kwL.contains k = true) : (ww.take m).contains k = false := by
  cases q : (ww.take m).contains k
  · rfl
  · have mem : k ∈ lawW := List.mem_of_mem_take (List.mem_of_mem_take (List.contains_iff_mem.mp q))
    have z := (List.mem_filter.mp mem).2
    rw [h] at z
    cases z
abbrev held4 : List Str := [Str.ofString "a", Str.ofString "z", Str.ofString "zz", Str.ofString "dp"]
abbrev mid24 : List Str := (List.range 24).map fun i => toS [98 + i]
theorem late_held {m : Nat} (h1 : 26 ≤ m) (h2 : m ≤ 1000) : (fresh m held4).take 26 = mid24 ++ [Str.ofString "aa", Str.ofString "ab"] := by
  rw [fresh_law (by show m + 4 ≤ 1400; omega), List.take_take, Nat.min_eq_left h1]
  decide +kernel
end My
/-! part ExA -/
set_option maxHeartbeats 4000000
/-! an own exception class over any built-in one, called with keywords or without -/
namespace My
open PySem PySem.Spec PySem.W PySem.Calls PyProof.Rows
section
open Builtin Builtin.ObjectAttr
variable {M : Model} {prog : Program} {w : World} {A : Around} {E : Value → Shared → Prop} {R : Result → Shared → Prop} {h : Heap} {g : Array GenState} {d : Drawn} {t : Nat} {os : OsState}
variable {nm q : Str} {C N : Addr} {bs bm bmB : List Value} {hdct : Bool} {sn : List Str} {sub : List Value} {ab : Bool} {col : Option Bool} {dd : Option Addr} {k0 k1 k2 k3 k5 : Option Value} {B newId initId : String}
variable {rest : List Value} {kws : List (Str × Value)}
/-- the built-in __new__ takes what it is given -/
theorem exk_check {Q : Unit → Shared → Prop} (F : ExcBaseFacts B newId initId bmB) (hT : ∀ T : String, bm.contains (.type T) = bmB.contains (.type T))
    (cls : h.get? C = some (excClassObj nm q C N bs bm hdct sn sub ab col dd k0 k1 k2 k3 k5 newId)) (go : Q () ⟨h, g, d, t, os⟩) : wpAny M A (checkBuiltinCall newId ⟨.ref C :: rest, kws⟩) Q E ⟨h, g, d, t, os⟩ := by
  have inB : (Value.ref C :: bm).contains (.type B) = true := by
    rw [List.contains_cons, hT, F.hasB]
    exact Bool.or_true _
  have nst := F.noStar
  simp only [checkBuiltinCall, F.newKind, F.newSplit, F.newRow]
  repeat (first
    | refine wpAny_loadPart_at cls ?_
    | (refine wpAny_isSubtype_exc cls ?_; rw [inB])
    | refine wpAny_staticBase_exc cls ?_
    | refine wpAny_madeBy_exc cls ?_
    | simp only [bne_self_eq_false, Bool.false_eq_true, if_false]
    | wp_step)
  exact go

theorem exk_new (F : ExcBaseFacts B newId initId bmB) (hT : ∀ T : String, bm.contains (.type T) = bmB.contains (.type T)) (cls : h.get? C = some (excClassObj nm q C N bs bm hdct sn sub ab col dd k0 k1 k2 k3 k5 newId)) (few : rest.length ≤ sizeLine)
    (go : R (.ok (.ret (.ref (h.objs.size + 1)))) ⟨(h.push (kdv_tup rest)).push (PySem.HandSPX.excO C h.objs.size), g, d, t, os⟩) :
    codeAny (model prog w) A (.builtin newId ⟨.ref C :: rest, kws⟩) R ⟨h, g, d, t, os⟩ := by
  have fe := F.ends
  have isB : (Value.ref C :: bm).contains (.type B) = true := by
    rw [List.contains_cons, hT, F.hasB]
    exact Bool.or_true _
  have noA : (Value.ref C :: bm).contains (.type "AttributeError") = false := by
    rw [List.contains_cons, hT, F.noAttr] <;> rfl
  have noN : (Value.ref C :: bm).contains (.type "NameError") = false := by
    rw [List.contains_cons, hT, F.noName] <;> rfl
  refine codeAny_builtinAt F.entry ?_
  unfold Builtin.«BaseException.__new__»
  refine PySem.wpAt_bind ?_
  show PySem.wpAt _ _ _ (stack >>= _) _ _ _
  refine PySem.wpAt_bind (PySem.wpAt_stack fun p below => PySem.wpAt_of_wpAny ?_)
  wp_walk
  refine PySem.wpAt_of_wpAny ?_
  rw [F.owner]
  repeat (first
    | with_reducible refine wpAny_madeHere_exc F.canon cls ?_
    | with_reducible refine wpAny_loadPart_at cls ?_
    | (with_reducible refine wpAny_isSubtype_exc cls ?_; first | rw [isB] | rw [noA] | rw [noN])
    | wp_step)
  show R _ _
  rw [Heap.size_push]
  exact go
theorem exk_type (F : ExcBaseFacts B newId initId bmB) (hT : ∀ T : String, bm.contains (.type T) = bmB.contains (.type T)) {fI : Addr} {Q : Fin → Shared → Prop} (cls : h.get? C = some (excClassObj nm q C N bs bm hdct sn sub ab col dd k0 k1 k2 k3 k5 newId))
    (hi : Looks (model prog w) h (typeLookup (.ref C) "__init__") (some (.ref fI))) (hb : ∀ self, Looks (model prog w) h (bindSpecial (.ref fI) self) (.ref fI, [self])) (few : rest.length ≤ sizeLine)
    (go : codeAny (model prog w) A (.call (.ref fI) ⟨.ref (h.objs.size + 1) :: rest, kws⟩)
      (fun r s' => match r with | .ok (.ret v) => v = .none ∧ Q (.done (.ret (.ref (h.objs.size + 1)))) s' | .ok _ => False | .error e => E e s')
      ⟨(h.push (kdv_tup rest)).push (PySem.HandSPX.excO C h.objs.size), g, d, t, os⟩) :
    wpAny (model prog w) A (Builtin.«type.__call__» ⟨.ref C :: rest, kws⟩) Q E ⟨h, g, d, t, os⟩ := by
  repeat (first
    | with_reducible refine wpAny_loadPart_at cls ?_
    | with_reducible refine wpAny_madeBy_exc cls ?_
    | wp_step)
  refine codeAny_call_builtin_code (Code.quiet_builtin _ F.quiet) (exk_check F hT cls ?_)
  refine exk_new F hT cls few ?_
  show wpAny _ _ _ _ _ _
  have more : ∀ b o, h.get? b = some o → ((h.push (kdv_tup rest)).push (PySem.HandSPX.excO C h.objs.size)).get? b = some o := fun b o e => Heap.get?_push_of_some _ (Heap.get?_push_of_some _ e)
  have cls2 := more _ _ cls
  have made : ((h.push (kdv_tup rest)).push (PySem.HandSPX.excO C h.objs.size)).get? (h.objs.size + 1) = some (PySem.HandSPX.excO C h.objs.size) := by heap_get
  have isC : (Value.ref C :: bm).contains (.ref C) = true := by simp
  have i2 := hi.keeps more
  have b2 := (hb (.ref (h.objs.size + 1))).keeps more
  unfold isInstance
  repeat (first
    | with_reducible refine wpAny_loadPart_at made ?_
    | (with_reducible refine wpAny_isSubtype_exc cls2 ?_; rw [isC])
    | wp_step)
  show wpAny _ _ (typeLookup (.ref C) _) _ _ _
  refine i2.at ?_
  refine wpAny_holding (wpAny_bind (b2.at ?_))
  refine wpAny_bind (wpAny_call (codeAny_mono go fun r s' z => ?_))
  rcases r with e | (v | _ | _ | _) <;> first
    | exact z
    | exact z.elim
    | skip
  obtain ⟨rfl, z⟩ := z
  first
    | exact wpAny_pure (wpAny_pure z)
    | (wp_walk; exact z)
theorem exk_call (F : ExcBaseFacts B newId initId bmB) (hT : ∀ T : String, bm.contains (.type T) = bmB.contains (.type T)) {fI : Addr} (cls : h.get? C = some (excClassObj nm q C N bs bm hdct sn sub ab col dd k0 k1 k2 k3 k5 newId))
    (hi : Looks (model prog w) h (typeLookup (.ref C) "__init__") (some (.ref fI))) (hb : ∀ self, Looks (model prog w) h (bindSpecial (.ref fI) self) (.ref fI, [self])) (few : rest.length ≤ sizeLine)
    (go : codeAny (model prog w) (A.under (.builtin "type.__call__" ⟨.ref C :: rest, kws⟩)) (.call (.ref fI) ⟨.ref (h.objs.size + 1) :: rest, kws⟩) (InitBack (h.objs.size + 1) R)
      ⟨(h.push (kdv_tup rest)).push (PySem.HandSPX.excO C h.objs.size), g, d, t, os⟩) :
    codeAny (model prog w) A (.call (.ref C) ⟨rest, kws⟩) R ⟨h, g, d, t, os⟩ := by
  have l1 := tc_lookup
  have l2 := tc_bind (.ref C)
  have isTy : (⟨h, g, d, t, os⟩ : Shared).TypeIs (.ref C) "type" := ⟨_, cls, rfl⟩
  refine codeAny_of_tree ?_
  show wpAny _ _ (callAny (.ref C) _) _ _ _
  repeat (any_goals (first
    | assumption
    | with_reducible refine wpAny_loadPart_at cls ?_
    | wp_step))
  refine ⟨rfl, ?_⟩
  refine codeAny_call_builtin_at (Code.quiet_builtin _ (by decide +kernel)) entry_typeCall (wpAny_check_type_call_sub cls (exk_type F hT cls hi hb few ?_))
  refine codeAny_mono go fun r s' z => ?_
  rcases r with e | (v | _ | _ | _) <;> exact z
end
end My
/-! part ExB -/
set_option maxHeartbeats 4000000
namespace My
open PySem PySem.Spec PySem.W PySem.Calls PyProof.Rows
section
open Builtin Builtin.ObjectAttr
variable {prog : Program} {w : World} {A : Around} {R : Result → Shared → Prop} {hp : Heap} {g : Array GenState} {d : Drawn} {t : Nat} {os : OsState} {K : Frag} {name : Str} {tk : Tok} {v : Value} {x C : Addr} {fv : Array Value} {cd : ClassData} {bmB : List Value} {B : String}
/-- the way of a store past the classes, to the object's own dict -/
theorem exk_store {od : Option Obj} {dv : Option Addr} (SB : StoreFacts B bmB "object.__setattr__" "object") (X : K.In hp) (I : InstAt hp x { cls := .ref C, dict := dv, data := .fields fv } C od) (hcd : clsIn K C = some cd) (hm : excTail bmB cd.mro = true) (hne : cd.mro.isEmpty = false)
    (ha : findIn K (.ref C) name = some none)
    (go : wpAny (model prog w) A.in1 (storeInOwnDict (.ref x) (.ref C) (.str name tk) name v false) (fun fin s' => match fin with | .done f => R (.ok f) s' | .again c' => c'.quiet = true ∧ codeAny (model prog w) A c' R s') (fun e s' => R (.error e) s') ⟨hp, g, d, t, os⟩) :
    codeAny (model prog w) A (.call (.builtin "object.__setattr__") ⟨[.ref x, .str name tk, v], []⟩) R ⟨hp, g, d, t, os⟩ := by
  have SF := F.store_object
  have inO : cd.mro.contains (.type "object") = true := (excTail_contains "object" _ hm).trans SB.hasOwner
  have sb : Looks (model prog w) hp (isInstance (.ref x) (.type "object")) true := I.type.andThen (looks_mroIn X (by unfold mroIn; rw [hcd, Option.bind_some, if_neg (by rw [hne]; decide), inO]))
  refine codeAny_call_builtin SF.slot.plain SF.entry (@check_slot (model prog w) _ _ ⟨hp, g, d, t, os⟩ "object.__setattr__" "object" "__setattr__" (.ref x) [.str name tk, v] [] _ SF.kind SF.split sb (SF.args (.ref x) (.str name tk) v) ?_)
  have mr : Looks (model prog w) hp (mroOf (.ref C)) cd.mro := (looks_clsIn X hcd).andThen .now
  have st : Looks (model prog w) hp (storeTaker? none) none := .now
  rw [osa_eq, refuse_eq]
  refine wpAny_bind (wpAny_bind (I.type.at (wpAny_bind (mr.at ?_))))
  rw [excTail_pass _ (SB.passes _) _ hm]
  refine wpAny_pure (wpAny_bind (I.type.at (wpAny_bind ((looks_findIn X ha).at (wpAny_bind (st.at ?_))))))
  exact go
/-- the first store: the dict is laid -/
theorem exk_osa1 (SB : StoreFacts B bmB "object.__setattr__" "object") (X : K.In hp) (hx : hp.get? x = some { cls := .ref C, data := .fields fv }) (hcd : clsIn K C = some cd) (hm : excTail bmB cd.mro = true) (hne : cd.mro.isEmpty = false) (hh : cd.hasDict = true) (ha : findIn K (.ref C) name = some none)
    (go : ∀ h' tk' dx, (∀ b o, b ≠ x → hp.get? b = some o → h'.get? b = some o) → hp.objs.size ≤ dx → dx ≠ x → h'.get? x = some { cls := .ref C, dict := some dx, data := .fields fv } →
      h'.Ns1 dx (fun y => if y = name then some v else none) → R (.ok (.ret .none)) ⟨h', g, d, tk', os⟩) :
    codeAny (model prog w) A (.call (.builtin "object.__setattr__") ⟨[.ref x, .str name tk, v], []⟩) R ⟨hp, g, d, t, os⟩ := by
  refine exk_store (dv := none) (od := none) SB X ⟨hx, rfl, rfl, trivial⟩ hcd hm hne ha ?_
  have xs : x ≠ hp.objs.size := Nat.ne_of_lt (Heap.lt_size hx)
  have lc : Looks (model prog w) hp (classData C) cd := looks_clsIn X hcd
  obtain ⟨nm, bs, mro, ns, qn, hd, sn, sb, ab, col, del⟩ := cd
  dsimp only at hh
  subst hh
  unfold storeInOwnDict ownDictForStores
  repeat (first
    | with_reducible refine PySem.HandSPX.store_in_new ?_ ?_
    | with_reducible refine wpAny_loadPart_at hx ?_
    | with_reducible refine lc.at ?_
    | wp_step)
  · exact ⟨_, #[], _, (Heap.get?_update_ne _ _ _ _ xs.symm).trans (Heap.get?_push_at rfl rfl), rfl, fun e he => absurd he (by simp), fun _ => rfl⟩
  · intro h' tk' hn' hs
    have x1 : (hp.push { cls := .type "dict", data := .dict #[] }).get? x = some { cls := .ref C, data := .fields fv } := Heap.get?_push_of_some _ hx
    refine go h' tk' hp.objs.size (fun b o hb ho => ?_) (Nat.le_refl _) xs.symm ?_ hn'
    · refine (hs.2 b (Nat.ne_of_lt (Heap.lt_size ho))).trans ?_
      exact (Heap.get?_update_ne _ _ _ _ hb).trans (Heap.get?_push_of_some _ ho)
    · exact (hs.2 x xs).trans (Heap.get?_update_self _ x1 rfl)
/-- a later store -/
theorem exk_osa2 {dx : Addr} {m0 : Str → Option Value} {nl : List Str} (SB : StoreFacts B bmB "object.__setattr__" "object") (X : K.In hp) (hx : hp.get? x = some { cls := .ref C, dict := some dx, data := .fields fv }) (hns : hp.Ns1 dx m0) (hw : Within m0 nl) (hz : nl.length ≤ 1000)
    (hcd : clsIn K C = some cd) (hm : excTail bmB cd.mro = true) (hne : cd.mro.isEmpty = false) (hh : cd.hasDict = true) (ha : findIn K (.ref C) name = some none)
    (go : ∀ h' tk', (∀ b o, b ≠ dx → hp.get? b = some o → h'.get? b = some o) → h'.Ns1 dx (fun y => if y = name then some v else m0 y) → R (.ok (.ret .none)) ⟨h', g, d, tk', os⟩) :
    codeAny (model prog w) A (.call (.builtin "object.__setattr__") ⟨[.ref x, .str name tk, v], []⟩) R ⟨hp, g, d, t, os⟩ := by
  obtain ⟨oD, esD, epD, hoD, hdD, _⟩ := hns.count hw
  refine exk_store (dv := some dx) (od := some oD) SB X ⟨hx, rfl, rfl, hoD⟩ hcd hm hne ha ?_
  have lc : Looks (model prog w) hp (classData C) cd := looks_clsIn X hcd
  obtain ⟨nm, bs, mro, ns, qn, hd, sn, sb, ab, col, del⟩ := cd
  dsimp only at hh
  subst hh
  unfold storeInOwnDict ownDictForStores
  repeat (first
    | with_reducible refine PySem.OEX.store_in_old hns hw hz ?_
    | with_reducible refine wpAny_loadPart_at hx ?_
    | with_reducible refine lc.at ?_
    | wp_step)
  intro h' tk' hn' hs
  exact go h' tk' (fun b o hb ho => (hs.2 b hb).trans ho) hn'
end
end My
namespace My
open PySem PySem.Spec PyProof.Rows L2
/-- what the written part says of an own exception class at C, over the built-in B -/
structure XCls (K : PySem.W.Frag) (C : Addr) : Prop where
  cls : ∃ (B newId initId : String) (bmB : List Value), ExcBaseFacts B newId initId bmB ∧ PySem.StoreFacts B bmB "object.__setattr__" "object" ∧
    ∃ nm q N bs bm sn sub ab col dd k0 k1 k2 k3 k5, K.lookup C = some (excClassObj nm q C N bs bm true sn sub ab col dd k0 k1 k2 k3 k5 newId) ∧ PySem.W.excTail bmB bm = true
  sa : PySem.W.findIn K (.ref C) "__setattr__" = some (some (.builtin "object.__setattr__"))
  exC : PySem.W.subIn K (.ref C) (.type "BaseException") = some true
  tyC : PySem.W.typeIn K (.ref C) = some (.type "type")
  kC : PySem.W.keepIn K (.ref C) = true
  ga : PySem.W.findIn K (.ref C) "__getattribute__" = some (some (.builtin "BaseException.__getattribute__"))
  gt : PySem.W.findIn K (.ref C) "__getattr__" = some none
  ha : PySem.W.findIn K (.ref C) "__class__" = some (some (.builtin "object.__class__"))
  hn : PySem.W.specialIn K (.builtin "object.__class__") "__get__" = some (some (.builtin "getset_descriptor.__get__"))
  ht : PySem.W.takesIn K (.builtin "object.__class__") = some true
  hm : PySem.W.mroIn K C (.type "object") = some true
theorem XCls.data {K : PySem.W.Frag} {C : Addr} (T : XCls K C) : ∃ (B newId initId : String) (bmB : List Value) (cd : ClassData), ExcBaseFacts B newId initId bmB ∧ PySem.StoreFacts B bmB "object.__setattr__" "object" ∧ PySem.W.clsIn K C = some cd ∧ PySem.W.excTail bmB cd.mro = true ∧ cd.mro.isEmpty = false ∧ cd.hasDict = true := by
  obtain ⟨B, newId, initId, bmB, FB, SB, nm, q, N, bs, bm, sn, sub, ab, col, dd, k0, k1, k2, k3, k5, hC, hbm⟩ := T.cls
  refine ⟨B, newId, initId, bmB, { name := nm, bases := bs, mro := .ref C :: bm, ns := N, qualname := q, hasDict := true, slotNames := sn, subclasses := sub, abstract := ab, collection := col, hasDel := false }, FB, SB, ?_, hbm, rfl, rfl⟩
  unfold PySem.W.clsIn
  rw [hC] <;> rfl
theorem XCls.hd {K : PySem.W.Frag} {C : Addr} (T : XCls K C) : PySem.W.hasDictIn K C = true := by
  obtain ⟨_, _, _, _, cd, _, _, h, _, _, e⟩ := T.data
  unfold PySem.W.hasDictIn
  rw [h]
  exact e
/-- a made exception of the class at C, its fields fs -/
def ExV (H : Hp) (a C : Addr) (fs : List (Str × V)) : Prop := ∃ d, H a = some (exo a C (some d)) ∧ H d = some (exd d fs)
theorem ExV.same {H H' : Hp} {a C : Addr} {fs : List (Str × V)} (e : ExV H a C fs) (s : Same H H') : ExV H' a C fs := by
  obtain ⟨d, h1, h2⟩ := e
  exact ⟨d, s _ _ h1, s _ _ h2⟩
section
variable {X : Cx} {pins : List (Addr × Obj)} {σ : L2.St} {H : Hp} {s : Shared} {a C dx : Addr} {f : Str} {y : V} {u : Value} {fs : List (Str × V)} {Q : Unit → Shared → Prop} {E : Value → Shared → Prop} {A : Around}
/-- self.f = y, the first one -/
theorem xst_new (T : XCls X.K C) (I : Inv X pins σ H s) (e : H a = some (exo a C none)) (hno : PySem.W.findIn X.K (.ref C) f = some none) (ry : RelV y u)
    (h : ∀ dx s', H dx = none → dx ≠ a → Inv X pins σ (upd (upd H dx (exd dx [(f, y)])) a (exo a C (some dx))) s' → Q () s') : wpAny (model X.prog X.w) A (setAttr (.ref a) f u) Q E s := by
  obtain ⟨B, newId, initId, bmB, cd, FB, SB, hcl, hbm, hne, hhd⟩ := T.data
  obtain ⟨t1, ho⟩ := exo_at I.hok e
  obtain ⟨hp, g, d, t, os⟩ := s
  refine PySem.W.set_plain I.kIn (ox := { cls := .ref C, dict := none, data := .fields #[.ref t1, .none, .none, .none, .bool false, .none] }) (od := none) ⟨ho, rfl, rfl, trivial⟩ T.sa ?_
  refine exk_osa1 SB I.kIn ho hcl hbm hne hhd hno (fun h' tk' dx k dn dne hx hn => ?_)
  have hnd : H dx = none := I.hok.fresh dn
  have nd : ∀ {b : Addr} {o : Obj}, hp.get? b = some o → b ≠ dx := fun {b o} q => Nat.ne_of_lt (Nat.lt_of_lt_of_le (Heap.lt_size q) dn)
  have na : ∀ {b : Addr}, H b = none → b ≠ a := fun {b} n z => by
    rw [z, e] at n
    cases n
  have U : Un X.fs [] H (upd (upd H dx (exd dx [(f, y)])) a (exo a C (some dx))) hp h' := by
    refine ⟨fun b o q n _ _ => k b o (na n) q, fun b o q n _ _ => ⟨o.slots, k b o (na n) q⟩, fun b o q n _ => ?_, fun b o q _ => ?_, fun b xs q => ?_, fun b o v q => ?_, fun b ps q => ⟨#[], ?_⟩⟩
    · rw [upd_ne (na n), upd_ne (nd q)]
      exact n
    · by_cases hb : b = a
      · exact ⟨_, by rw [hb]; exact hx⟩
      · exact ⟨o, k b o hb q⟩
    · rw [upd_ne (at_ne e q exo_tup), upd_ne (ne_of_none q hnd)]
      exact q
    · rw [upd_ne (at_ne e q exo_frz), upd_ne (ne_of_none q hnd)]
      exact q
    · rw [upd_ne (at_ne e q exo_tbl), upd_ne (ne_of_none q hnd), q]
      simp
  refine h dx _ hnd dne (I.un (t' := tk') U fun b o q => ?_)
  by_cases hb : b = a
  · subst hb
    rw [upd_same] at q
    cases q
    exact exo_ok hx
  · rw [upd_ne hb] at q
    by_cases hd : b = dx
    · subst hd
      rw [upd_same] at q
      cases q
      exact exd_ok hn (relO_put (fs := []) ry fun g => True.intro)
    · rw [upd_ne hd] at q
      refine (I.hok b o q).stay (fun c v hc z => k c v ?_ z) (fun c hc => ?_) fun c xs hc => ?_
      · rcases hc with hc | hc
        · rw [hc]
          exact hb
        · exact at_ne e hc exo_own
      · rw [upd_ne (at_ne e hc exo_own), upd_ne (ne_of_none hc hnd)]
        exact hc
      · rw [upd_ne (at_ne e hc exo_tup), upd_ne (ne_of_none hc hnd)]
        exact hc
/-- self.f = y, a further one -/
theorem xst_old (T : XCls X.K C) (I : Inv X pins σ H s) (e : H a = some (exo a C (some dx))) (ed : H dx = some (exd dx fs)) (hl : fs.length ≤ 900) (hno : PySem.W.findIn X.K (.ref C) f = some none) (ry : RelV y u)
    (h : ∀ s', Inv X pins σ (upd H dx (exd dx ((f, y) :: fs))) s' → Q () s') : wpAny (model X.prog X.w) A (setAttr (.ref a) f u) Q E s := by
  obtain ⟨B, newId, initId, bmB, cd, FB, SB, hcl, hbm, hne, hhd⟩ := T.data
  obtain ⟨t1, ho⟩ := exo_at I.hok e
  obtain ⟨mA, hns, rel⟩ := exd_at I.hok ed
  have hw := within_of rel
  obtain ⟨hp, g, d, t, os⟩ := s
  obtain ⟨oD, _, _, hoD, _, _⟩ := hns.count hw
  refine PySem.W.set_plain I.kIn (ox := { cls := .ref C, dict := some dx, data := .fields #[.ref t1, .none, .none, .none, .bool false, .none] }) (od := some oD) ⟨ho, rfl, rfl, hoD⟩ T.sa ?_
  refine exk_osa2 SB I.kIn ho hns hw (by rw [List.length_map]; omega) hcl hbm hne hhd hno (fun h' tk' k hn => ?_)
  have hd : ∃ o, h'.get? dx = some o := by
    obtain ⟨o, _, _, e', _⟩ := hn
    exact ⟨o, e'⟩
  refine h _ ?_
  exact I.write (t' := tk') (x := dx) (e := dx) (o := exd dx ((f, y) :: fs)) (by rw [ed]; exact True.intro) (.inl rfl) k hd (exd_ok hn (relO_put ry rel))
end
end My
/-! part ExC -/
set_option maxHeartbeats 4000000
namespace My
open PySem PySem.Spec PyProof.Rows L2
/-- self.f = e in the __init__ of an own exception class -/
def tXst (K : PySem.W.Frag) (f : Str) (to te : TE) : TS := fun D σ H => te σ H fun y H1 => to σ H1 fun x H2 => ∃ a C : Addr, x = .ref a ∧ XCls K C ∧ PySem.W.findIn K (.ref C) f = some none ∧
  ((H2 a = some (exo a C none) ∧ ∀ dx, H2 dx = none → dx ≠ a → D.nx σ (upd (upd H2 dx (exd dx [(f, y)])) a (exo a C (some dx)))) ∨
    ∃ (dx : Addr) (fs : List (Str × V)), H2 a = some (exo a C (some dx)) ∧ H2 dx = some (exd dx fs) ∧ fs.length ≤ 900 ∧ D.nx σ (upd H2 dx (exd dx ((f, y) :: fs))))
section
variable {X : Cx} {o e : Expr} {es : List Expr} {to te : TE} {f : Str} {p p' pos : Pos}
theorem ps_xst (ho : PE X o to) (he : PE X e te) (hs : swapsWith e (some (.Attribute o f p')) pos.line X.env = pure false := by rfl) : PS X (.Assign [.Attribute o f p'] e pos) (tXst X.K f to te) := by
  refine ⟨fun pins s σ H D I h => ?_⟩
  refine plainObj_wpAny_Assign_Attribute (thn (he.run pins s σ H _ I h) fun v s1 ⟨y, H1, I1, r1, q1⟩ => ?_) hs
  refine thn (ho.run pins s1 σ H1 _ I1 q1) fun u s2 ⟨x, H2, I2, r2, a, C, ex, T, hno, q⟩ => ?_
  subst ex
  obtain rfl : u = Value.ref a := r2
  rcases q with ⟨ea, q⟩ | ⟨dx, fs, ea, ed, hl, q⟩
  · exact xst_new T I2 ea hno r1 fun dx s' n ne J => ⟨σ, _, J, q dx n ne⟩
  · exact xst_old T I2 ea ed hl hno r1 fun s' J => ⟨σ, _, J, q⟩
end
/-! ### the promise of such an __init__ -/
/-- the fields: the code, then the names in their order -/
def flds (code : Str) (names : List Str) (ws : List V) : List (Str × V) := (names.zip ws).reverse ++ [(("code" : Str), V.str code)]
structure XInit (K : PySem.W.Frag) (C : Addr) (names : List Str) : Prop where
  cls : XCls K C
  no : ∀ f ∈ ("code" : Str) :: names, PySem.W.findIn K (.ref C) f = some none
def spXI (K : PySem.W.Frag) (code : Str) (names : List Str) : Sp := fun vs H Q _ => ∃ (a C : Addr) (ws : List V), vs = .ref a :: ws ∧ ws.length = names.length ∧ XInit K C names ∧ H a = some (exo a C none) ∧
  ∀ H' d, (∀ b, b ≠ a → b ≠ d → H' b = H b) → H d = none → d ≠ a → H' a = some (exo a C (some d)) → H' d = some (exd d (flds code names ws)) → Q .non H'
/-- C(e, .., k = v, ..), its __init__ keeping that promise -/
theorem run_mkX {X : Cx} {k n : Nat} {C fI : Addr} {fd : FuncData} {ps ks : List Str} {code : Str} {names : List Str} {pins : List (Addr × Obj)} {σ : L2.St} {H : Hp} {s : Shared} {Q : VK} {us ws : List Value} {vs zs : List V} {g : List Value → List Value → List Value} {gV : List V → List V → List V}
    (T : XInit X.K C names) (iC : PySem.W.findIn X.K (.ref C) "__init__" = some (some (.ref fI))) (tI : PySem.W.typeIn X.K (.ref fI) = some (.type "function")) (F1 : FnOk X.prog X.w X.K X.mg X.base CX0 k fI fd ps (spXI X.K code names)) (hr : Room (k + 1) X.A)
    (hb : KBn X.K fd ps (n + 1) ks g gV) (I : Inv X pins σ H s) (r : Vals vs us) (rz : Vals zs ws) (l1 : vs.length = n) (l2 : zs.length = ks.length) (few : n ≤ 1000) (as : List V) (hv : ∀ a, gV (.ref a :: vs) zs = .ref a :: as) (hl : as.length = names.length)
    (h : ∀ H' a, Same H H' → H a = none → ExV H' a C (flds code names as) → Q (.ref a) H') : wpAny (model X.prog X.w) X.A (call (.ref C) us (ks.zip ws)) (EP X pins σ Q) X.xe s := by
  obtain ⟨B, newId, initId, bmB, FB, SB, nm, q, N, bs, bm, sn, sub, ab, col, dd, k0, k1, k2, k3, k5, hC, hbm⟩ := T.cls.cls
  obtain ⟨hp, g0, dr, tk, os⟩ := s
  have hsz : hp.objs.size ≤ hp.objs.size + 1 := Nat.le_succ _
  have hn : H (hp.objs.size + 1) = none := I.hok.fresh hsz
  have kk : ∀ b o, hp.get? b = some o → ((hp.push (PySem.W.kdv_tup us)).push (PySem.HandSPX.excO C hp.objs.size)).get? b = some o := fun b o e => Heap.get?_push_of_some _ (Heap.get?_push_of_some _ e)
  have hget : ((hp.push (PySem.W.kdv_tup us)).push (PySem.HandSPX.excO C hp.objs.size)).get? (hp.objs.size + 1) = some (PySem.HandSPX.excO C hp.objs.size) := by heap_get
  have I2 : Inv X pins σ (upd H (hp.objs.size + 1) (exo (hp.objs.size + 1) C none)) ⟨(hp.push (PySem.W.kdv_tup us)).push (PySem.HandSPX.excO C hp.objs.size), g0, dr, tk, os⟩ :=
    I.laid (t' := tk) (a := hp.objs.size + 1) (o := exo (hp.objs.size + 1) C none) (h' := (hp.push (PySem.W.kdv_tup us)).push (PySem.HandSPX.excO C hp.objs.size)) kk hsz (exo_ok hget)
  have r1 : Vals (V.ref (hp.objs.size + 1) :: vs) (Value.ref (hp.objs.size + 1) :: us) := .cons rfl r
  have r2 := hb.rel r1 rz
  have e1 : (Value.ref (hp.objs.size + 1) :: us).length = n + 1 := r1.length.symm.trans (congrArg Nat.succ l1)
  have e2 : ws.length = ks.length := rz.length.symm.trans l2
  have hus : us.length ≤ sizeLine := by
    rw [← Paired.length r, sizeLine_eq]
    omega
  have hq : spXI X.K code names (gV (.ref (hp.objs.size + 1) :: vs) zs) (upd H (hp.objs.size + 1) (exo (hp.objs.size + 1) C none)) (fun v H2 => v = .non ∧ Q (.ref (hp.objs.size + 1)) H2) (fun _ _ _ => False) := by
    refine ⟨hp.objs.size + 1, C, as, hv _, hl, T, upd_same, fun H' d kp nd ne ea ed => ⟨rfl, h _ _ (fun b o e => ?_) hn ⟨d, ea, ed⟩⟩⟩
    have b1 : b ≠ hp.objs.size + 1 := ne_of_none e hn
    have nd' : H d = none := by
      rw [upd_ne ne] at nd
      exact nd
    rw [kp b b1 (ne_of_none e nd'), upd_ne b1]
    exact e
  refine wpAny_call (exk_call (rest := us) (kws := ks.zip ws) FB (fun Y => PySem.W.excTail_contains Y bm hbm) (I.kIn _ _ hC) (PySem.W.looks_findIn I.kIn iC) (fun self => PySem.W.bind_fn I.kIn self tI) hus
    (codeAny_mono (F1.run _ X.stack _ _ ⟨Value.ref (hp.objs.size + 1) :: us, ks.zip ws⟩ (g (Value.ref (hp.objs.size + 1) :: us) ws) _ _ (fun _ _ _ => False) (hr.make C us (ks.zip ws)) (I2.env0.make C us (ks.zip ws)) (hb.to _ (Value.ref (hp.objs.size + 1) :: us) ws I2.kIn e1 e2) r2 hq) fun r s' hq' => ?_))
  cases r with
  | error er => exact False.elim hq'
  | ok fl =>
    cases fl with
    | ret u =>
      obtain ⟨v, H', I3, rv, ev, q3⟩ := I2.after hq'
      subst ev
      refine ⟨rv, V.ref (hp.objs.size + 1), H', ?_, rfl, q3⟩
      exact I3
    | next => exact False.elim hq'
    | brk => exact False.elim hq'
    | cont => exact False.elim hq'
end My
/-! part ExD -/
set_option maxHeartbeats 4000000
namespace My
open PySem PySem.Spec PyProof.Rows L2
theorem PE.imp {X : Cx} {e : Expr} {t t' : TE} (h : PE X e t) (i : ∀ σ H Q, t' σ H Q → t σ H Q) : PE X e t' := ⟨fun pins s σ H Q I q => h.run pins s σ H Q I (i σ H Q q)⟩
theorem PA.imp {X : Cx} {es : List Expr} {t t' : TA} (h : PA X es t) (i : ∀ σ H Q, t' σ H Q → t σ H Q) : PA X es t' := ⟨fun pos pins s σ H Q I q => h.run pos pins s σ H Q I (i σ H Q q)⟩
/-- what stands behind a call of such a class: a new exception, all else as it was -/
def tMkX (C : Addr) (code : Str) (names : List Str) (n m : Nat) (gV : List V → List V → List V) (t tk : TA) : TE := fun σ H Q => t σ H fun vs H1 => tk σ H1 fun zs H2 => vs.length = n ∧ zs.length = m ∧
  ∃ as : List V, (∀ a, gV (.ref a :: vs) zs = .ref a :: as) ∧ as.length = names.length ∧ ∀ H' a, Same H2 H' → H2 a = none → ExV H' a C (flds code names as) → Q (.ref a) H'
/-- what is known of the class that the name x means -/
structure XMk (P : Program) (w : World) (K : PySem.W.Frag) (mg : Str → Option Value) (base : Heap) (x : Str) (C fI : Addr) (fd : FuncData) (ps : List Str) (code : Str) (names : List Str) : Prop where
  T : XInit K C names
  g : mg x = some (.ref C)
  iC : PySem.W.findIn K (.ref C) "__init__" = some (some (.ref fI))
  tI : PySem.W.typeIn K (.ref fI) = some (.type "function")
  F : FnOk P w K mg base CX0 1 fI fd ps (spXI K code names)
section
variable {X : Cx} {x code : Str} {C fI : Addr} {fd : FuncData} {ps ks names : List Str} {p pos : Pos} {e : Expr} {es : List Expr} {kws : List Keyword} {t tk : TA} {n : Nat} {g : List Value → List Value → List Value} {gV : List V → List V → List V}
/-- C(e, ..) -/
theorem pe_mkX (M : XMk X.prog X.w X.K X.mg X.base x C fI fd ps code names) (hr : Room 2 X.A) (hg : Gl X x) (hb : KBn X.K fd ps (n + 1) [] g gV) (few : n ≤ 1000) (ha : PA X (e :: es) t)
    (hdb : (x == ("__debug__" : Str)) = false := by decide) (he : starEach (e :: es) X.env = (false, eval e X.env) :: starEach es X.env := by rfl) (hpl : (backTo pos (starEach es X.env)).any (·.1) = false := by rfl) :
    PE X (.Call (.Name x p) (e :: es) [] pos) (tMkX C code names n 0 gV t tNil) := by
  refine ⟨fun pins s σ H Q I h => ?_⟩
  refine wpAny_Call_Name_kw (ld_glob I hg M.g ?_ hdb)
  refine PySem.W.callWith_K (h₀ := X.base) I.ok.mod.kin M.T.cls.kC (thn (ha.run pos pins s σ H _ I h) fun us s1 ⟨vs, H1, I1, r1, l1, l2, as, hv, hl, q⟩ => ⟨I1.kIn, ?_⟩) he hpl
  exact run_mkX (ws := []) (zs := []) M.T M.iC M.tI M.F hr hb I1 r1 .nil l1 rfl few as hv hl q
/-- C() -/
theorem pe_mkX0 (M : XMk X.prog X.w X.K X.mg X.base x C fI fd ps code names) (hr : Room 2 X.A) (hg : Gl X x) (hb : KBn X.K fd ps 1 [] g gV) (hdb : (x == ("__debug__" : Str)) = false := by decide) :
    PE X (.Call (.Name x p) [] [] pos) (tMkX C code names 0 0 gV tNil tNil) := by
  refine ⟨fun pins s σ H Q I h => ?_⟩
  refine wpAny_Call_Name_kw (ld_glob I hg M.g ?_ hdb)
  obtain ⟨l1, l2, as, hv, hl, q⟩ := h
  refine PySem.W.callWith_K0 I.kIn M.T.cls.kC ?_
  exact run_mkX (n := 0) (us := []) (vs := []) (ws := []) (zs := []) M.T M.iC M.tI M.F hr hb I .nil .nil rfl rfl (by decide) as hv hl q
/-- C(k = v, ..) -/
theorem pe_mkXk (M : XMk X.prog X.w X.K X.mg X.base x C fI fd ps code names) (hr : Room 2 X.A) (hg : Gl X x) (hb : KBn X.K fd ps 1 ks g gV) (hkw : PK X kws tk) (hall : (backToKw pos (keywordEach kws X.env)).all (·.1.isSome) = true := by rfl)
    (hks : (backToKw pos (keywordEach kws X.env)).filterMap (·.1) = ks := by rfl) (hdb : (x == ("__debug__" : Str)) = false := by decide) (hpl : ((backTo pos (starEach [] X.env)).any (·.1) || (backToKw pos (keywordEach kws X.env)).any (·.1.isNone)) = false := by rfl) :
    PE X (.Call (.Name x p) [] kws pos) (tMkX C code names 0 ks.length gV tNil tk) := by
  refine ⟨fun pins s σ H Q I h => wpAny_Call_Name_kw (ld_glob I hg M.g (PySem.W.callWith_KW0 (h₀ := X.base) I.ok.mod.kin M.T.cls.kC hall ?_ hpl) hdb)⟩
  refine thn (hkw.run pos pins s σ H _ I h) fun ws s2 ⟨zs, H2, I2, rz, l1, l2, as, hv, hl, q⟩ => ⟨I2.kIn, ?_⟩
  rw [hks]
  exact run_mkX (n := 0) (us := []) (vs := []) M.T M.iC M.tI M.F hr hb I2 .nil rz rfl l2 (by decide) as hv hl q
/-- e.f, a field of a made exception -/
def tXFld (K : PySem.W.Frag) (f : Str) (te : TE) : TE := fun σ H Q => te σ H fun x H1 => ∃ (a C : Addr) (fs : List (Str × V)) (v : V), x = .ref a ∧ XCls K C ∧ PySem.W.findIn K (.ref C) f = some none ∧ ExV H1 a C fs ∧ fs.lookup f = some v ∧ Q v H1
theorem pe_xfld {f : Str} {te : TE} (he : PE X e te) (hb : attributeBase e f X.env (eval e X.env) = eval e X.env := by rfl) : PE X (.Attribute e f pos) (tXFld X.K f te) := by
  refine ⟨fun pins s σ H Q I h => ?_⟩
  refine attr_of hb (thn (he.run pins s σ H _ I h) fun u s1 hh => ?_)
  obtain ⟨x, H1, I1, rx, a, C, fs, v, ex, T, no, ⟨d, ea, ed⟩, l, q⟩ := hh
  subst ex
  obtain rfl : u = Value.ref a := rx
  obtain ⟨t1, ho⟩ := exo_at I1.hok ea
  obtain ⟨mA, hns, rel⟩ := exd_at I1.hok ed
  obtain ⟨od, hod, hl⟩ := lookIn_ns hns
  obtain ⟨u, hu, ru⟩ := RelO.some_of (v := v) (o := mA f) (by rw [← l]; exact rel f)
  have J : PySem.W.InstAt s1.heap a { cls := .ref C, dict := some d, data := .fields #[.ref t1, .none, .none, .none, .bool false, .none] } C (some od) := ⟨ho, rfl, rfl, hod⟩
  exact HandSPX.exc_get I1.kIn J T.ga T.gt T.exC (PySem.W.findObj_own T.hd no rfl (by rw [hl, hu])) (handed_of ru) ⟨v, H1, I1.tok _, ru, q⟩
/-- isinstance(e, c), e a made exception -/
def rIsX (K : PySem.W.Frag) : List V → Hp → VK → Prop := fun xs H Q => ∃ (a C : Addr) (fs : List (Str × V)) (c : V) (u : Value) (b : Bool), xs = [.ref a, c] ∧ ClsV c u ∧ XCls K C ∧ ExV H a C fs ∧ PySem.W.kitOne K (.ref C) u = some b ∧ Q (.bl b) H
theorem call_isX : CallR X (.builtin "isinstance") (rIsX X.K) := by
  intro pins s σ H xs us Q I r h
  obtain ⟨a, C, fs, c, u, b, rfl, hcv, T, ⟨d, ea, ed⟩, e, q⟩ := h
  cases r with
  | cons rx rr =>
    cases rr with
    | cons rt rr =>
      cases rr
      cases rx
      have ec := hcv.eq rt
      subst ec
      obtain ⟨t1, ho⟩ := exo_at I.hok ea
      obtain ⟨mA, hns, rel⟩ := exd_at I.hok ed
      obtain ⟨od, hod, hl⟩ := lookIn_ns hns
      have J : PySem.W.InstAt s.heap a { cls := .ref C, dict := some d, data := .fields #[.ref t1, .none, .none, .none, .bool false, .none] } C (some od) := ⟨ho, rfl, rfl, hod⟩
      obtain ⟨_, _, _, _, cd, _, _, hcl, _⟩ := T.data
      exact PySem.W.kia_one (PySem.W.kitx_exc (by rw [hcl]; rfl) T.ga T.gt T.exC T.ha T.hn T.ht T.hm) I.kIn J e (fun z => nomatch z) fun tk => ⟨.bl b, H, I.kept (t' := tk) fun _ _ z => z, rfl, q⟩
end
end My
/-! part KitT -/
/-! sugar: rules with simpler readings -/
namespace My
open PySem PySem.Spec PyProof.Rows L2
theorem PT.imp {X : Cx} {e : Expr} {t t' : TT} (h : PT X e t) (i : ∀ σ H Q, t' σ H Q → t σ H Q) : PT X e t' := ⟨fun pins s σ H Q I q => h.run pins s σ H Q I (i σ H Q q)⟩
theorem PSs.imp {X : Cx} {e : List Stmt} {t t' : TS} (h : PSs X e t) (i : ∀ D σ H, t' D σ H → t D σ H) : PSs X e t' := ⟨fun pins s σ H D I q => h.run pins s σ H D I (i D σ H q)⟩
theorem PS.imp {X : Cx} {e : Stmt} {t t' : TS} (h : PS X e t) (i : ∀ D σ H, t' D σ H → t D σ H) : PS X e t' := ⟨fun pins s σ H D I q => h.run pins s σ H D I (i D σ H q)⟩
/-- the same reading, its end weakened -/
def tLax (t : TE) : TE := fun σ H Q => ∃ Mid : V → Hp → Prop, t σ H Mid ∧ ∀ v H', Mid v H' → Q v H'
theorem pe_lax {X : Cx} {e : Expr} {t : TE} (h : PE X e t) : PE X e (tLax t) := by
  refine ⟨fun pins s σ H Q I ⟨Mid, hm, hu⟩ => ?_⟩
  refine thn (h.run pins s σ H Mid I hm) fun v s1 ⟨x, H1, I1, r1, q1⟩ => ⟨x, H1, I1, r1, hu _ _ q1⟩
def taLax (t : TA) : TA := fun σ H Q => ∃ Mid : List V → Hp → Prop, t σ H Mid ∧ ∀ v H', Mid v H' → Q v H'
theorem pa_lax {X : Cx} {es : List Expr} {t : TA} (h : PA X es t) : PA X es (taLax t) := by
  refine ⟨fun pos pins s σ H Q I ⟨Mid, hm, hu⟩ => ?_⟩
  refine thn (h.run pos pins s σ H Mid I hm) fun v s1 ⟨x, H1, I1, r1, q1⟩ => ⟨x, H1, I1, r1, hu _ _ q1⟩
/-- an argument list of written texts -/
def TexT (l : List Str) (ta : TA) : Prop := ∀ σ H Q, Q (l.map V.str) H → ta σ H Q
theorem texT_nil : TexT [] tNil := fun _ _ _ h => h
theorem texT_cons {z : Str} {l : List Str} {ta : TA} (h : TexT l ta) : TexT (z :: l) (tCons (tC (.str z)) ta) := fun σ H Q q => h σ H (fun xs H' => Q (.str z :: xs) H') q
/-- x in (written texts) -/
def tInS (l : List Str) (te : TE) : TT := fun σ H k => te σ H fun x H1 => ∃ z, x = .str z ∧ ∀ H2, Same H1 H2 → k (l.contains z) H2
section
variable {X : Cx} {e : Expr} {es : List Expr} {te : TE} {ta : TA} {l : List Str} {p pos : Pos}
theorem ins_read (neg : Bool) {K : PySem.W.Frag} {Q : VK} {z : Str} {H1 : Hp} {σ : L2.St} (hT : TexT l ta) (few : l.length ≤ 1000) (q : ∀ H2, Same H1 H2 → Q (.bl (if neg = true then !l.contains z else l.contains z)) H2) :
    tTup ta σ H1 fun y H2 => rIn K neg (.str z) y H2 Q := by
  refine hT σ H1 _ ⟨by rw [List.length_map]; exact small63 few, fun p np => ⟨p, _, rfl, .inr (.inl (.inl upd_same)), rfl, flat_strs l, ?_⟩⟩
  rw [inV_strs]
  exact q _ (same_new np _)
theorem pt_inS {x1} (he : PE X e te) (ha : PA X es ta) (hT : TexT l ta) (few : l.length ≤ 1000 := by decide) : PT X (.Compare e [.In] [.Tuple es x1 p] pos) (tInS l te) :=
  PT.imp (pt_cmpR op_in_seq (pe_lax he) (pe_tup ha) rfl) fun σ H k h => ⟨_, h, fun x H1 ⟨z, ex, q⟩ => by
    subst ex
    exact ins_read false hT few fun H2 s => ⟨_, rfl, q H2 s⟩⟩
end
end My
/-! part TokM -/
/-! tokens of a line: the mathematics -/
namespace My
open PySem PySem.Spec PyProof.Rows L2
def sgC : List Nat := [61, 43, 45, 42, 60, 40, 41, 44, 123, 125]
def dgC : List Nat := [48, 49, 50, 51, 52, 53, 54, 55, 56, 57]
abbrev sgS : Str := Str.ofString "=+-*<(),{}"
abbrev dgS : Str := Str.ofString "0123456789"
theorem sg_cps : sgS.cps.toList = sgC := by decide +kernel
theorem dg_cps : dgS.cps.toList = dgC := by decide +kernel
theorem not_dg {c : Nat} (h : c ∈ c26) : c ∉ dgC := by
  have q : ∀ c ∈ c26, c ∉ dgC := by decide +kernel
  exact q c h
/-- the run of such signs at the front -/
def runOf (S : List Nat) : List Nat → List Nat
  | [] => []
  | c :: r => if c ∈ S then c :: runOf S r else []
/-- a run of digits that is a numeral -/
def numOk (d : List Nat) : Bool := decide (d.length ≤ 6) && (decide (d = [48]) || !decide (d.head? = some 48))
/-- the token at the front: its kind, its text -/
def tok1 (l : List Nat) : Str × List Nat :=
  match l with
  | [] => (Str.ofString "bad sign", [])
  | c :: r =>
    if c ∈ sgC then (Str.ofString "sign", [c])
    else if c ∈ c26 then (let w := runOf c26 (c :: r); if w.length ≤ 6 then (Str.ofString "word", w) else (Str.ofString "bad word", []))
    else if c ∈ dgC then (let d := runOf dgC (c :: r); if numOk d = true then (Str.ofString "number", d) else (Str.ofString "bad number", []))
    else (Str.ofString "bad sign", [])
abbrev Tk := Nat × Str × List Nat
/-- the tokens of l from the place p on -/
inductive Toks (l : List Nat) : Nat → List Tk → Prop
  | fin : Toks l l.length [(l.length, Str.ofString "end", [])]
  | skip {p : Nat} {r : List Tk} : l[p]? = some 32 → Toks l (p + 1) r → Toks l p r
  | bad {p c : Nat} {k : Str} : l[p]? = some c → c ≠ 32 → tok1 (l.drop p) = (k, []) → Toks l p [(p, k, [])]
  | step {p c : Nat} {k : Str} {t : List Nat} {r : List Tk} : l[p]? = some c → c ≠ 32 → tok1 (l.drop p) = (k, t) → t ≠ [] → Toks l (p + t.length) r → Toks l p ((p, k, t) :: r)
theorem Toks.fun {l : List Nat} {p : Nat} {r r' : List Tk} (h : Toks l p r) : Toks l p r' → r = r' := by
  induction h generalizing r' with
  | fin =>
    intro h'
    cases h' with
    | fin => rfl
    | skip e _ => simp at e
    | bad e _ _ => simp at e
    | step e _ _ _ _ => simp at e
  | skip e _ ih =>
    intro h'
    cases h' with
    | fin => simp at e
    | skip _ h => exact ih h
    | bad e2 n _ => rw [e] at e2; exact absurd (Option.some.inj e2).symm n
    | step e2 n _ _ _ => rw [e] at e2; exact absurd (Option.some.inj e2).symm n
  | bad e n k =>
    intro h'
    cases h' with
    | fin => simp at e
    | skip e2 _ => rw [e] at e2; exact absurd (Option.some.inj e2) n
    | bad _ _ k2 => rw [k] at k2; cases k2; rfl
    | step _ _ k2 n2 _ => rw [k] at k2; cases k2; exact absurd rfl n2
  | step e n k nt _ ih =>
    intro h'
    cases h' with
    | fin => simp at e
    | skip e2 _ => rw [e] at e2; exact absurd (Option.some.inj e2) n
    | bad _ _ k2 => rw [k] at k2; cases k2; exact absurd rfl nt
    | step _ _ k2 _ h =>
      rw [k] at k2
      cases k2
      rw [ih h]
theorem runOf_le (S : List Nat) : ∀ l : List Nat, (runOf S l).length ≤ l.length
  | [] => Nat.le_refl 0
  | c :: r => by
    unfold runOf
    split
    · exact Nat.succ_le_succ (runOf_le S r)
    · exact Nat.zero_le _
theorem runOf_ne {S : List Nat} {c : Nat} {r : List Nat} (h : c ∈ S) : runOf S (c :: r) ≠ [] := by
  unfold runOf
  rw [if_pos h]
  exact fun z => nomatch z
theorem tok1_le (l : List Nat) : (tok1 l).2.length ≤ l.length := by
  unfold tok1
  cases l with
  | nil => exact Nat.le_refl 0
  | cons c r =>
    dsimp only
    split
    · exact Nat.succ_le_succ (Nat.zero_le _)
    split
    · split
      · exact runOf_le _ _
      · exact Nat.zero_le _
    split
    · split
      · exact runOf_le _ _
      · exact Nat.zero_le _
    · exact Nat.zero_le _
/-- the list of these tokens stands in the heap -/
def TokV (H : Hp) (y : V) (t : Tk) : Prop := ∃ a : Addr, y = .ref a ∧ H a = some (.tup [.int (t.1 : Nat), .str t.2.1, .str (toS t.2.2)])
theorem TokV.same {H H' : Hp} (s : Same H H') {y : V} {t : Tk} (h : TokV H y t) : TokV H' y t := by
  obtain ⟨a, e, k⟩ := h
  exact ⟨a, e, s _ _ k⟩
abbrev TokL (H : Hp) : List V → List Tk → Prop := Paired (TokV H)
theorem tokL_same {H H' : Hp} (s : Same H H') {ys : List V} {r : List Tk} (h : TokL H ys r) : TokL H' ys r := Paired.mapP h fun _ _ => TokV.same s
theorem tokL_snoc {H : Hp} {ys : List V} {r : List Tk} {y : V} {t : Tk} (h : TokL H ys r) (k : TokV H y t) : TokL H (ys ++ [y]) (r ++ [t]) := by
  induction h with
  | nil => exact .cons k .nil
  | cons a _ ih => exact .cons a ih
theorem tokL_eqv {K : PySem.W.Frag} {H : Hp} {ys zs : List V} {r : List Tk} (h : TokL H ys r) : TokL H zs r → Paired (Eqv K H 2) ys zs := by
  induction h generalizing zs with
  | nil =>
    intro h'
    cases h'
    exact .nil
  | cons k _ ih =>
    intro h'
    cases h' with
    | cons k2 h2 =>
      obtain ⟨a, rfl, e1⟩ := k
      obtain ⟨b, rfl, e2⟩ := k2
      exact .cons (eqv_tup (.inl (.inl e1)) (.inl (.inl e2)) (by show 3 < sizeLine; decide) (.cons (eqv_scal rfl) (.cons (eqv_scal rfl) (.cons (eqv_scal rfl) .nil)))) (ih h2)
/-- tokens, as a program of its own may promise them -/
def spToks : Sp := fun vs H Q _ => ∃ l : List Nat, vs = [.str (toS l)] ∧ l.length ≤ 100000 ∧ ∀ (H' : Hp) (p : Addr) (ys : List V) (r : List Tk), Same H H' → H p = none → H' p = some (.lst ys) → TokL H' ys r → Toks l 0 r → Q (.ref p) H'
theorem at_toS {l : List Nat} {p : Nat} {c : Nat} (h : l[p]? = some c) : atI (toS l).cps.toList (p : Int) = some c := by
  refine atI_nat ?_
  show l.toArray.toList[p]? = some c
  rw [List.toList_toArray]
  exact h
theorem cut_toS (l : List Nat) (i j : Nat) (h : i ≤ j) (h2 : j ≤ l.length) : cutS (toS l) (some (i : Int)) (some (j : Int)) = toS ((l.drop i).take (j - i)) := by
  unfold cutS
  rw [toS_len, show HT.sIx l.length 0 (some (i : Int)) = min i l.length from HT.sIx_nat l.length 0 i, show HT.sIx l.length l.length (some (j : Int)) = min j l.length from HT.sIx_nat l.length l.length j, Nat.min_eq_left (Nat.le_trans h h2), Nat.min_eq_left h2]
  show (⟨((l.toArray.toList.drop i).take (j - i)).toArray⟩ : Str) = _
  rw [List.toList_toArray]
  rfl
theorem toS_empty (l : List Nat) : decide (V.str (toS l) = V.str (Str.ofString "")) = decide (l = []) := by
  rw [show Str.ofString "" = toS [] by decide +kernel, Bool.eq_iff_iff, decide_eq_true_eq, decide_eq_true_eq]
  exact ⟨fun h => toS_inj (V.str.inj h), fun h => by rw [h]⟩
theorem sign_eq (c k : Nat) (s : String) (h : Str.ofString s = toS [k]) : decide (V.str ⟨#[c]⟩ = V.str (Str.ofString s)) = decide (c = k) := by
  rw [h, Bool.eq_iff_iff, decide_eq_true_eq, decide_eq_true_eq]
  refine ⟨fun e => ?_, fun e => by rw [e]; rfl⟩
  have q : toS [c] = toS [k] := V.str.inj e
  exact (List.cons.inj (toS_inj q)).1
/-- a run ends where it stops -/
theorem run_end {S : List Nat} : ∀ {e : Nat} {l : List Nat}, (∀ i, i < e → ∃ c, l[i]? = some c ∧ c ∈ S) → (∀ c, l[e]? = some c → c ∉ S) → runOf S l = l.take e
  | 0, [], _, _ => rfl
  | 0, c :: r, _, stop => by
    unfold runOf
    rw [if_neg (stop c rfl)]
    rfl
  | e + 1, [], h, _ => by
    obtain ⟨c, h1, _⟩ := h 0 (by omega)
    cases h1
  | e + 1, c :: r, h, stop => by
    obtain ⟨c', h1, h2⟩ := h 0 (by omega)
    cases h1
    unfold runOf
    rw [if_pos h2, run_end (e := e) (fun i hi => h (i + 1) (by omega)) fun c' hc => stop c' hc]
    rfl
end My
/-! part TokN -/
namespace My
open PySem PySem.Spec PyProof.Rows L2
abbrev s0 : Str := Str.ofString "0"
theorem s0_eq : s0 = toS [48] := by decide +kernel
/-- the program's own test of a run of digits -/
def plainB (z : Str) : Bool := Txt.isascii z && (Txt.isdigit z && (decide (V.str z = V.str s0) || !Txt.startswith z s0))
def numV (z : Str) : V := if (z.length : Int) > 6 then .non else if plainB z = true then .int ((NumText.digitsVal z.cps.toList : Nat) : Int) else .non
theorem starts0 (c : Nat) (r : List Nat) : Txt.startswith (toS (c :: r)) s0 = decide (c = 48) := by
  rw [s0_eq]
  unfold Txt.startswith Builtin.Str.subAt
  have h1 : (decide (0 + (toS [48]).length ≤ (toS (c :: r)).length)) = true := by
    rw [toS_len, toS_len]
    exact decide_eq_true (by show 0 + 1 ≤ r.length + 1; omega)
  rw [h1, Bool.true_and]
  have h2 : (toS (c :: r)).cps.extract 0 (0 + (toS [48]).length) = #[c] := by
    rw [toS_len]
    show ((c :: r).toArray).extract 0 1 = #[c]
    simp
  rw [h2]
  show (#[c] == [48].toArray) = decide (c = 48)
  rw [Bool.eq_iff_iff, beq_iff_eq, decide_eq_true_eq]
  simp
theorem digit_ok {c : Nat} (h : c ∈ dgC) : Unicode.isDigit c = true ∧ c < 128 ∧ 48 ≤ c ∧ c ≤ 57 := by
  have q : ∀ c ∈ dgC, Unicode.isDigit c = true ∧ c < 128 ∧ 48 ≤ c ∧ c ≤ 57 := by decide +kernel
  exact q c h
theorem ascii_digit {c : Nat} (h : c < 128) (d : Unicode.isDigit c = true) : 48 ≤ c ∧ c ≤ 57 := by
  have q : ∀ c : Fin 128, Unicode.isDigit c.1 = true → 48 ≤ c.1 ∧ c.1 ≤ 57 := by decide +kernel
  exact q ⟨c, h⟩ d
/-- a run of digits -/
theorem plain_run {d : List Nat} (h : ∀ c ∈ d, c ∈ dgC) (h0 : d ≠ []) : plainB (toS d) = (decide (d = [48]) || !decide (d.head? = some 48)) := by
  have a1 : Txt.isascii (toS d) = true := by
    show d.toArray.all (fun c => decide (c < 128)) = true
    rw [List.all_toArray]
    exact List.all_eq_true.mpr fun c hc => decide_eq_true (digit_ok (h c hc)).2.1
  have a2 : Txt.isdigit (toS d) = true := by
    show (decide ((toS d).length > 0) && d.toArray.all Unicode.isDigit) = true
    rw [List.all_toArray, toS_len, decide_eq_true (List.length_pos_iff.mpr h0)]
    exact List.all_eq_true.mpr fun c hc => (digit_ok (h c hc)).1
  have a3 : decide (V.str (toS d) = V.str s0) = decide (d = [48]) := by
    rw [s0_eq, Bool.eq_iff_iff, decide_eq_true_eq, decide_eq_true_eq]
    exact ⟨fun e => toS_inj (V.str.inj e), fun e => by rw [e]⟩
  unfold plainB
  rw [a1, a2, a3, Bool.true_and, Bool.true_and]
  cases d with
  | nil => exact absurd rfl h0
  | cons c r =>
    rw [starts0]
    congr 2
    rw [Bool.eq_iff_iff, decide_eq_true_eq, decide_eq_true_eq]
    show c = 48 ↔ some c = some 48
    exact ⟨fun e => by rw [e], fun e => Option.some.inj e⟩
theorem numV_run {d : List Nat} (h : ∀ c ∈ d, c ∈ dgC) (h0 : d ≠ []) : (!decide (numV (toS d) = V.non)) = numOk d := by
  unfold numV numOk
  rw [toS_len, plain_run h h0]
  by_cases h6 : d.length ≤ 6
  · rw [if_neg (by omega), decide_eq_true h6, Bool.true_and]
    cases (decide (d = [48]) || !decide (d.head? = some 48))
    · rw [if_neg Bool.false_ne_true]
      rfl
    · rw [if_pos rfl]
      rfl
  · rw [if_pos (by omega), decide_eq_false h6, Bool.false_and]
    rfl
theorem plain_digits {z : Str} (h : plainB z = true) : NumText.AllDigits z.cps.toList ∧ z.cps.toList ≠ [] := by
  unfold plainB at h
  rw [Bool.and_eq_true, Bool.and_eq_true] at h
  obtain ⟨h1, h2, _⟩ := h
  have b1 : z.cps.all (fun c => decide (c < 128)) = true := h1
  have b2 : (decide (z.length > 0) && z.cps.all Unicode.isDigit) = true := h2
  rw [Bool.and_eq_true, decide_eq_true_eq] at b2
  rw [← Array.all_toList, List.all_eq_true] at b1
  have b3 := b2.2
  rw [← Array.all_toList, List.all_eq_true] at b3
  refine ⟨fun c hc => ascii_digit (of_decide_eq_true (b1 c hc)) (b3 c hc), fun e => ?_⟩
  have : z.length = 0 := by
    show z.cps.size = 0
    rw [← Array.length_toList, e]
    rfl
  omega
theorem runOf_mem {S : List Nat} : ∀ {l : List Nat} {c : Nat}, c ∈ runOf S l → c ∈ S
  | [], c, h => by cases h
  | a :: l, c, h => by
    unfold runOf at h
    split at h
    · rename_i ha
      rcases List.mem_cons.mp h with e | e
      · rw [e]; exact ha
      · exact runOf_mem e
    · cases h
def spPlain : Sp := fun vs H Q _ => ∃ z, vs = [.str z] ∧ Q (.bl (plainB z)) H
def spNum (K : PySem.W.Frag) : Sp := fun vs H Q _ => ∃ v, vs = [v] ∧ ((∃ z, v = .str z ∧ z.length ≤ sizeLine ∧ Q (numV z) H) ∨ ∃ t, TyX K H v (.type t) ∧ kitB t "str" = some false ∧ Q .non H)
def spRun : Sp := fun vs H Q _ => ∃ (l : List Nat) (p : Nat) (z : Str), vs = [.str (toS l), .int p, .str z] ∧ l.length ≤ 100000 ∧ p ≤ l.length ∧ Q (.str (toS (runOf z.cps.toList (l.drop p)))) H
def spTok1 : Sp := fun vs H Q _ => ∃ (l : List Nat) (p : Nat), vs = [.str (toS l), .int p] ∧ l.length ≤ 100000 ∧ p < l.length ∧ ∀ (H' : Hp) (a : Addr), Same H H' → H a = none → H' a = some (.tup [.str (tok1 (l.drop p)).1, .str (toS (tok1 (l.drop p)).2)]) → Q (.ref a) H'
def spOfS : Sp := fun vs H Q _ => ∃ (a : Addr) (z : Str), vs = [.ref a, .str z] ∧ IsBag H a ∧ 0 < z.length ∧ z.length ≤ 1000000 ∧ ∀ (i c : Nat), z.cps.toList[i]? = some c → Q (.str ⟨#[c]⟩) H
theorem tok1_cons (c : Nat) (r : List Nat) : tok1 (c :: r) = if c ∈ sgC then (Str.ofString "sign", [c])
    else if c ∈ c26 then (if (runOf c26 (c :: r)).length ≤ 6 then (Str.ofString "word", runOf c26 (c :: r)) else (Str.ofString "bad word", []))
    else if c ∈ dgC then (if numOk (runOf dgC (c :: r)) = true then (Str.ofString "number", runOf dgC (c :: r)) else (Str.ofString "bad number", []))
    else (Str.ofString "bad sign", []) := rfl
theorem tokL_upd {H : Hp} {f : Addr} {zs ws : List V} (e : H f = some (.lst zs)) {ys : List V} {r : List Tk} (h : TokL H ys r) : TokL (upd H f (.lst ws)) ys r :=
  Paired.mapP h fun y t ⟨a, e1, e2⟩ => ⟨a, e1, by rw [upd_ne (ne_of e2 e (by intro z; cases z))]; exact e2⟩
theorem tokL_len {H : Hp} {ys : List V} {r : List Tk} (h : TokL H ys r) : ys.length = r.length := Paired.length h
end My
/-! part KitD -/
namespace My
open PySem PySem.Spec PyProof.Rows L2
theorem toS_tl (z : Str) : toS z.cps.toList = z := by
  show (⟨z.cps.toList.toArray⟩ : Str) = z
  rw [Array.toArray_toList]
theorem tl_len (z : Str) : z.cps.toList.length = z.length := Array.length_toList
theorem joinL_len : ∀ ps : List (List Nat), (∀ p ∈ ps, p.length ≤ 1) → (TL.joinL [] ps).length ≤ ps.length
  | [], _ => Nat.le_refl 0
  | [p], h => h p List.mem_cons_self
  | p :: q :: r, h => by
    have ih := joinL_len (q :: r) fun z hz => h z (List.mem_cons_of_mem _ hz)
    have h1 := h p List.mem_cons_self
    show (p ++ ([] ++ TL.joinL [] (q :: r))).length ≤ (q :: r).length + 1
    rw [List.length_append, List.length_append]
    show p.length + (0 + _) ≤ _
    omega
theorem join_len {ys : List Str} (h : ∀ y ∈ ys, y.length ≤ 1) : (Txt.join (Str.ofString "") ys).length ≤ ys.length := by
  rw [TL.join_eq, ← tl_len]
  have e : (Str.ofString "").cps.toList = [] := by decide +kernel
  have q : (Str.join (Str.ofString "") ys).cps.toList = TL.joinL (Str.ofString "").cps.toList (ys.map fun z => z.cps.toList) := TL.tl_join _ _
  rw [q, e]
  refine Nat.le_trans (joinL_len _ fun p hp => ?_) (by rw [List.length_map]; exact Nat.le_refl _)
  obtain ⟨y, hy, rfl⟩ := List.mem_map.mp hp
  rw [tl_len]
  exact h y hy
theorem sum_len {ys : List Str} (h : ∀ y ∈ ys, y.length ≤ 1) : (ys.map (·.length)).sum ≤ ys.length := by
  induction ys with
  | nil => exact Nat.le_refl 0
  | cons y ys ih =>
    have h1 := h y List.mem_cons_self
    have h2 := ih fun z hz => h z (List.mem_cons_of_mem _ hz)
    rw [List.map_cons, List.sum_cons, List.length_cons]
    omega
theorem app_len (a b : Str) : (a ++ b).length = a.length + b.length := by
  show (a.cps ++ b.cps).size = a.cps.size + b.cps.size
  exact Array.size_append
theorem cutS_len (z : Str) (lo hi : Option Int) : (cutS z lo hi).length ≤ z.length := by
  rw [← tl_len, ← tl_len z]
  show (_ : List Nat).toArray.toList.length ≤ _
  rw [List.toList_toArray, List.length_take, List.length_drop]
  omega
theorem num_len {n : Int} (h0 : 0 ≤ n) (h : n < 1000000) : (Str.ofString (toString n)).length ≤ 6 := PyProof.Rows.toString_length_le h0 (by decide) h
/-- an item of a list of short texts -/
theorem pick_str {n : Nat} {xs : List V} (h : xs.all (fun v => match v with | .str z => decide (z.length ≤ n) | _ => false) = true) {i : Nat} {v : V} (hv : xs[i]? = some v) : ∃ z : Str, v = .str z ∧ z.length ≤ n := by
  have q := List.all_eq_true.mp h v (List.mem_of_getElem? hv)
  cases v with
  | str z => exact ⟨z, rfl, of_decide_eq_true q⟩
  | _ => cases q
theorem log_small {n : Int} (h : n.natAbs < 1000000) : n.natAbs.log2 < 1920 := by
  by_cases h0 : n.natAbs = 0
  · rw [h0]
    decide
  · exact Nat.lt_trans ((Nat.log2_lt h0).mpr (show n.natAbs < 2 ^ 20 by omega)) (by decide)
theorem Toks.len {l : List Nat} {p : Nat} {r : List Tk} (h : Toks l p r) : r.length + p ≤ l.length + 1 := by
  induction h with
  | fin => show 1 + _ ≤ _; omega
  | skip _ _ ih => omega
  | bad e _ _ =>
    have := (List.getElem?_eq_some_iff.mp e).1
    show 1 + _ ≤ _
    omega
  | @step p c k t r e _ _ nt _ ih =>
    have := List.length_pos_iff.mpr nt
    show r.length + 1 + p ≤ _
    omega
/-- the tokens of a written line, reckoned -/
def toksF : Nat → List Nat → Nat → Option (List Tk)
  | 0, _, _ => none
  | n + 1, l, p => match l[p]? with
    | none => if p = l.length then some [(l.length, Str.ofString "end", [])] else none
    | some c => if c = 32 then toksF n l (p + 1) else
      match tok1 (l.drop p) with
      | (k, []) => some [(p, k, [])]
      | (k, x :: t) => (toksF n l (p + (x :: t).length)).map ((p, k, x :: t) :: ·)
theorem toksF_ok : ∀ {n : Nat} {l : List Nat} {p : Nat} {r : List Tk}, toksF n l p = some r → Toks l p r
  | 0, _, _, _, h => by cases h
  | n + 1, l, p, r, h => by
    unfold toksF at h
    split at h
    · split at h
      · rename_i hp
        cases h
        rw [hp]
        exact .fin
      · cases h
    · rename_i c hc
      split at h
      · rename_i h32
        rw [h32] at hc
        exact .skip hc (toksF_ok h)
      · rename_i n32
        split at h
        · rename_i k hk
          cases h
          exact .bad hc n32 hk
        · rename_i k x t hk
          obtain ⟨r', h1, rfl⟩ := Option.map_eq_some_iff.mp h
          exact .step hc n32 hk (fun z => nomatch z) (toksF_ok h1)
theorem tokV_lit {H : Hp} {a : Addr} {i : Nat} {k z : Str} (h : H a = some (.tup [.int (i : Nat), .str k, .str z])) : TokV H (.ref a) (i, k, z.cps.toList) := ⟨a, rfl, by rw [h, toS_tl]⟩
theorem eqv_toks {K : PySem.W.Frag} {H : Hp} {a b : Addr} {ys zs : List V} {r : List Tk} (e1 : H a = some (.lst ys)) (e2 : H b = some (.lst zs)) (t1 : TokL H ys r) (t2 : TokL H zs r) (h : r.length < 1000000) : Eqv K H 3 (.ref a) (.ref b) :=
  eqv_list (.inl (.inl e1)) (.inl (.inl e2)) (by rw [tokL_len t1]; unfold sizeLine; omega) (tokL_eqv t1 t2)
theorem Eqv.up {K : PySem.W.Frag} {H : Hp} : ∀ {n : Nat} {v w : V}, Eqv K H n v w → Eqv K H (n + 1) v w
  | 0, _, _, h => h.elim
  | _ + 1, _, _, .inl h => .inl h
  | _ + 1, _, _, .inr (.inl ⟨a, b, xs, ys, e1, e2, h1, h2, h3, h4, h5⟩) => .inr (.inl ⟨a, b, xs, ys, e1, e2, h1, h2, h3, h4, fun i x y hx hy => Eqv.up (h5 i x y hx hy)⟩)
  | _ + 1, _, _, .inr (.inr ⟨a, b, xs, ys, e1, e2, h1, h2, h3, h4, h5⟩) => .inr (.inr ⟨a, b, xs, ys, e1, e2, h1, h2, h3, h4, fun i x y hx hy => Eqv.up (h5 i x y hx hy)⟩)
end My
/-! part KitE -/
namespace My
open PySem PySem.Spec PyProof.Rows L2
/-! ### any data: what isinstance says of them -/
def tyD : PyData → String
  | .none => "NoneType"
  | .bool _ => "bool"
  | .int _ => "int"
  | .str _ => "str"
  | .list _ => "list"
  | .tuple _ => "tuple"
  | .dict _ => "dict"
theorem ty_dp {K : PySem.W.Frag} {H : Hp} {v : V} {d : PyData} (h : Dp K H v d) : TyX K H v (.type (tyD d)) := by
  cases h with
  | non => exact .base .non
  | bl b => exact .base (.bl b)
  | int i => exact .base (.int i)
  | str x => exact .base (.str x)
  | lst h _ => exact ty_list h
  | tup h _ => exact ty_tuple h
mutual
theorem dp_same {K : PySem.W.Frag} {H H' : Hp} (s : Same H H') : ∀ {v : V} {d : PyData}, Dp K H v d → Dp K H' v d
  | _, _, .non => .non
  | _, _, .bl b => .bl b
  | _, _, .int i => .int i
  | _, _, .str x => .str x
  | _, _, .lst h k => .lst (s.seq h) (dpAll_same s k)
  | _, _, .tup h k => .tup (Same.seqT s h) (dpAll_same s k)
theorem dpAll_same {K : PySem.W.Frag} {H H' : Hp} (s : Same H H') : ∀ {vs : List V} {ds : List PyData}, DpAll K H vs ds → DpAll K H' vs ds
  | _, _, .nil => .nil
  | _, _, .cons h k => .cons (dp_same s h) (dpAll_same s k)
end
def isStrD : PyData → Bool
  | .str _ => true
  | _ => false
theorem kit_str (d : PyData) (h : ∀ k, d ≠ .dict k) : kitB (tyD d) "str" = some (isStrD d) := by
  cases d with
  | none => exact (show kitB "NoneType" "str" = some false by decide +kernel)
  | bool _ => exact (show kitB "bool" "str" = some false by decide +kernel)
  | int _ => exact (show kitB "int" "str" = some false by decide +kernel)
  | str _ => exact (show kitB "str" "str" = some true by decide +kernel)
  | list _ => exact (show kitB "list" "str" = some false by decide +kernel)
  | tuple _ => exact (show kitB "tuple" "str" = some false by decide +kernel)
  | dict k => exact absurd rfl (h k)
def isIntD : PyData → Bool
  | .int _ => true
  | .bool _ => true
  | _ => false
theorem kit_int (d : PyData) (h : ∀ k, d ≠ .dict k) : kitB (tyD d) "int" = some (isIntD d) := by
  cases d with
  | none => exact (show kitB "NoneType" "int" = some false by decide +kernel)
  | bool _ => exact (show kitB "bool" "int" = some true by decide +kernel)
  | int _ => exact (show kitB "int" "int" = some true by decide +kernel)
  | str _ => exact (show kitB "str" "int" = some false by decide +kernel)
  | list _ => exact (show kitB "list" "int" = some false by decide +kernel)
  | tuple _ => exact (show kitB "tuple" "int" = some false by decide +kernel)
  | dict k => exact absurd rfl (h k)
def isBoolD : PyData → Bool
  | .bool _ => true
  | _ => false
theorem kit_bool (d : PyData) (h : ∀ k, d ≠ .dict k) : kitB (tyD d) "bool" = some (isBoolD d) := by
  cases d with
  | none => exact (show kitB "NoneType" "bool" = some false by decide +kernel)
  | bool _ => exact (show kitB "bool" "bool" = some true by decide +kernel)
  | int _ => exact (show kitB "int" "bool" = some false by decide +kernel)
  | str _ => exact (show kitB "str" "bool" = some false by decide +kernel)
  | list _ => exact (show kitB "list" "bool" = some false by decide +kernel)
  | tuple _ => exact (show kitB "tuple" "bool" = some false by decide +kernel)
  | dict k => exact absurd rfl (h k)
def isTupD : PyData → Bool
  | .tuple _ => true
  | _ => false
theorem kit_tup (d : PyData) (h : ∀ k, d ≠ .dict k) : kitB (tyD d) "tuple" = some (isTupD d) := by
  cases d with
  | none => exact (show kitB "NoneType" "tuple" = some false by decide +kernel)
  | bool _ => exact (show kitB "bool" "tuple" = some false by decide +kernel)
  | int _ => exact (show kitB "int" "tuple" = some false by decide +kernel)
  | str _ => exact (show kitB "str" "tuple" = some false by decide +kernel)
  | list _ => exact (show kitB "list" "tuple" = some false by decide +kernel)
  | tuple _ => exact (show kitB "tuple" "tuple" = some true by decide +kernel)
  | dict k => exact absurd rfl (h k)
theorem dp_nodict {K : PySem.W.Frag} {H : Hp} {v : V} {d : PyData} (h : Dp K H v d) (k) : d ≠ .dict k := by
  cases h <;> exact fun z => nomatch z
/-! ### words -/
/-- the law's own test of a word -/
def wordB (z : Str) : Bool := decide (1 ≤ z.length) && (decide (z.length ≤ 6) && (!kwL.contains z && z.cps.toList.all fun c => decide (c ∈ c26)))
theorem ascii_letter {c : Nat} (h : c < 128) (a : Unicode.isAlpha c = true) (u : (Unicode.isUpper c || Unicode.isTitle c) = false) : c ∈ c26 := by
  have q : ∀ c : Fin 128, Unicode.isAlpha c.1 = true → (Unicode.isUpper c.1 || Unicode.isTitle c.1) = false → c.1 ∈ c26 := by decide +kernel
  exact q ⟨c, h⟩ a u
theorem c26_range {c : Nat} (h : c ∈ c26) : 97 ≤ c ∧ c < 123 := by
  have q : ∀ c ∈ c26, 97 ≤ c ∧ c < 123 := by decide +kernel
  exact q c h
theorem name_word (z : Str) : nameB z = wordB z := by
  rw [← toS_tl z]
  generalize z.cps.toList = l
  unfold wordB
  rw [toS_len, show (toS l).cps.toList = l from List.toList_toArray ..]
  by_cases hl : l.all (fun c => decide (c ∈ c26)) = true
  · have hm : ∀ c ∈ l, 97 ≤ c ∧ c < 123 := fun c hc => c26_range (of_decide_eq_true (List.all_eq_true.mp hl c hc))
    by_cases h0 : 1 ≤ l.length
    · by_cases h6 : l.length ≤ 6
      · rw [nameB_word h0 h6 hm, decide_eq_true h0, decide_eq_true h6, hl, Bool.and_true, Bool.true_and, Bool.true_and]
      · rw [decide_eq_false h6]
        unfold nameB
        rw [if_pos (by rw [toS_len]; omega)]
        simp
    · have : l = [] := List.length_eq_zero_iff.mp (by omega)
      subst this
      decide +kernel
  · rw [Bool.not_eq_true] at hl
    rw [hl, Bool.and_false, Bool.and_false, Bool.and_false]
    unfold nameB
    split
    · rfl
    · refine Bool.eq_false_iff.mpr fun q => ?_
      rw [Bool.and_eq_true, Bool.and_eq_true, Bool.and_eq_true] at q
      obtain ⟨q1, q2, q3, _⟩ := q
      have b1 : l.toArray.all (fun c => decide (c < 128)) = true := q1
      have b2 : (decide ((toS l).length > 0) && l.toArray.all Unicode.isAlpha) = true := q2
      have b3 : (l.toArray.any Unicode.isLower && !l.toArray.any fun c => Unicode.isUpper c || Unicode.isTitle c) = true := q3
      rw [List.all_toArray, List.all_eq_true] at b1
      rw [Bool.and_eq_true, List.all_toArray, List.all_eq_true] at b2
      rw [Bool.and_eq_true, List.any_toArray, List.any_toArray, Bool.not_eq_true', List.any_eq_false] at b3
      have : l.all (fun c => decide (c ∈ c26)) = true := List.all_eq_true.mpr fun c hc => decide_eq_true (ascii_letter (of_decide_eq_true (b1 c hc)) (b2.2 c hc) (Bool.not_eq_true _ ▸ b3.2 c hc))
      rw [hl] at this
      cases this
/-! ### numerals -/
/-- a run of digits without a 0 ahead -/
def numB (l : List Nat) : Bool := decide (1 ≤ l.length) && (l.all (fun c => decide (c ∈ dgC)) && !(decide (1 < l.length) && decide (l[0]? = some 48)))
theorem ascii_dg {c : Nat} (h : c < 128) (a : Unicode.isDigit c = true) : c ∈ dgC := by
  have q : ∀ c : Fin 128, Unicode.isDigit c.1 = true → c.1 ∈ dgC := by decide +kernel
  exact q ⟨c, h⟩ a
theorem plain_num (l : List Nat) : plainB (toS l) = numB l := by
  unfold numB
  by_cases hl : l.all (fun c => decide (c ∈ dgC)) = true
  · by_cases h0 : l = []
    · subst h0
      decide +kernel
    · have hm : ∀ c ∈ l, c ∈ dgC := fun c hc => of_decide_eq_true (List.all_eq_true.mp hl c hc)
      have hp : 1 ≤ l.length := List.length_pos_iff.mpr h0
      rw [plain_run hm h0, hl, decide_eq_true hp, Bool.true_and, Bool.true_and]
      cases l with
      | nil => exact absurd rfl h0
      | cons c r =>
        show (decide (c :: r = [48]) || !decide (some c = some 48)) = !(decide (1 < r.length + 1) && decide (some c = some 48))
        by_cases h48 : c = 48
        · subst h48
          cases r with
          | nil => decide
          | cons x r =>
            rw [decide_eq_false (show ¬ (48 :: x :: r) = [48] from fun z => by cases z), decide_eq_true (show 1 < (x :: r).length + 1 by rw [List.length_cons]; omega)]
            rfl
        · rw [decide_eq_false (show ¬ some c = some 48 from fun z => h48 (Option.some.inj z)), Bool.and_false]
          cases (decide (c :: r = [48])) <;> rfl
  · rw [Bool.not_eq_true] at hl
    rw [hl, Bool.false_and, Bool.and_false]
    refine Bool.eq_false_iff.mpr fun q => ?_
    unfold plainB at q
    rw [Bool.and_eq_true, Bool.and_eq_true] at q
    have b1 : l.toArray.all (fun c => decide (c < 128)) = true := q.1
    have b2 : (decide ((toS l).length > 0) && l.toArray.all Unicode.isDigit) = true := q.2.1
    rw [List.all_toArray, List.all_eq_true] at b1
    rw [Bool.and_eq_true, List.all_toArray, List.all_eq_true] at b2
    have : l.all (fun c => decide (c ∈ dgC)) = true := List.all_eq_true.mpr fun c hc => decide_eq_true (ascii_dg (of_decide_eq_true (b1 c hc)) (b2.2 c hc))
    rw [hl] at this
    cases this
end My
/-! part DL1 -/
/-! DL: data that stands still, and lists of one's own: readings without a heap -/
namespace DL
open PySem PySem.Spec PyProof.Rows L2 My
/-- a thing told by what is true of it, as long as nothing that stands is taken away -/
structure Stab where
  R : Hp → Addr → Prop
  same : ∀ H H' a, Same H H' → R H a → R H' a
/-- data: what a value stands for -/
inductive Dt where
  | non | bl (b : Bool) | int (i : Int) | str (s : Str)
  | lst (ds : List Dt) | tup (ds : List Dt)
  | dct (kvs : List (List Key × Dt)) | dck (kvs : List (Key × Dt))
  | obj (C : Addr) (fs : List (Str × Dt))
  | sp (B : Stab)
mutual
inductive DX (K : PySem.W.Frag) (H : Hp) : V → Dt → Prop
  | non : DX K H .non .non
  | bl (b : Bool) : DX K H (.bl b) (.bl b)
  | int (i : Int) : DX K H (.int i) (.int i)
  | str (s : Str) : DX K H (.str s) (.str s)
  | lst {a : Addr} {vs : List V} {ds : List Dt} : H a = some (.lst vs) → vs.length ≤ 1000000 → DXs K H vs ds → DX K H (.ref a) (.lst ds)
  | tup {a : Addr} {vs : List V} {ds : List Dt} : H a = some (.tup vs) → vs.length ≤ 1000000 → DXs K H vs ds → DX K H (.ref a) (.tup ds)
  | dct {a : Addr} {kvs : List (List Key × V)} {ps : List (List Key × Dt)} : H a = some (.dT kvs) → DXt K H kvs ps → DX K H (.ref a) (.dct ps)
  | dck {a : Addr} {kvs : List (Key × V)} {ps : List (Key × Dt)} : H a = some (.dK kvs) → DXk K H kvs ps → DX K H (.ref a) (.dck ps)
  | obj {a C dx : Addr} {fs : List (Str × V)} {ps : List (Str × Dt)} : H a = some (.ins C dx fs) → DXf K H fs ps → DX K H (.ref a) (.obj C ps)
  | sp {a : Addr} {B : Stab} : B.R H a → DX K H (.ref a) (.sp B)
inductive DXs (K : PySem.W.Frag) (H : Hp) : List V → List Dt → Prop
  | nil : DXs K H [] []
  | cons {v : V} {vs : List V} {d : Dt} {ds : List Dt} : DX K H v d → DXs K H vs ds → DXs K H (v :: vs) (d :: ds)
inductive DXt (K : PySem.W.Frag) (H : Hp) : List (List Key × V) → List (List Key × Dt) → Prop
  | nil : DXt K H [] []
  | cons {k : List Key} {v : V} {vs : List (List Key × V)} {d : Dt} {ds : List (List Key × Dt)} : DX K H v d → DXt K H vs ds → DXt K H ((k, v) :: vs) ((k, d) :: ds)
inductive DXk (K : PySem.W.Frag) (H : Hp) : List (Key × V) → List (Key × Dt) → Prop
  | nil : DXk K H [] []
  | cons {k : Key} {v : V} {vs : List (Key × V)} {d : Dt} {ds : List (Key × Dt)} : DX K H v d → DXk K H vs ds → DXk K H ((k, v) :: vs) ((k, d) :: ds)
inductive DXf (K : PySem.W.Frag) (H : Hp) : List (Str × V) → List (Str × Dt) → Prop
  | nil : DXf K H [] []
  | cons {f : Str} {v : V} {vs : List (Str × V)} {d : Dt} {ds : List (Str × Dt)} : DX K H v d → DXf K H vs ds → DXf K H ((f, v) :: vs) ((f, d) :: ds)
end
mutual
theorem DX.same {K : PySem.W.Frag} {H H' : Hp} (s : Same H H') : ∀ {v : V} {d : Dt}, DX K H v d → DX K H' v d
  | _, _, .non => .non
  | _, _, .bl b => .bl b
  | _, _, .int i => .int i
  | _, _, .str x => .str x
  | _, _, .lst h l k => .lst (s _ _ h) l (DXs.same s k)
  | _, _, .tup h l k => .tup (s _ _ h) l (DXs.same s k)
  | _, _, .dct h k => .dct (s _ _ h) (DXt.same s k)
  | _, _, .dck h k => .dck (s _ _ h) (DXk.same s k)
  | _, _, .obj h k => .obj (s _ _ h) (DXf.same s k)
  | _, _, .sp (B := B) h => .sp (B.same _ _ _ s h)
theorem DXs.same {K : PySem.W.Frag} {H H' : Hp} (s : Same H H') : ∀ {vs : List V} {ds : List Dt}, DXs K H vs ds → DXs K H' vs ds
  | _, _, .nil => .nil
  | _, _, .cons h k => .cons (DX.same s h) (DXs.same s k)
theorem DXt.same {K : PySem.W.Frag} {H H' : Hp} (s : Same H H') : ∀ {vs : List (List Key × V)} {ds : List (List Key × Dt)}, DXt K H vs ds → DXt K H' vs ds
  | _, _, .nil => .nil
  | _, _, .cons h k => .cons (DX.same s h) (DXt.same s k)
theorem DXk.same {K : PySem.W.Frag} {H H' : Hp} (s : Same H H') : ∀ {vs : List (Key × V)} {ds : List (Key × Dt)}, DXk K H vs ds → DXk K H' vs ds
  | _, _, .nil => .nil
  | _, _, .cons h k => .cons (DX.same s h) (DXk.same s k)
theorem DXf.same {K : PySem.W.Frag} {H H' : Hp} (s : Same H H') : ∀ {vs : List (Str × V)} {ds : List (Str × Dt)}, DXf K H vs ds → DXf K H' vs ds
  | _, _, .nil => .nil
  | _, _, .cons h k => .cons (DX.same s h) (DXf.same s k)
end
theorem DXs.len {K : PySem.W.Frag} {H : Hp} : ∀ {vs : List V} {ds : List Dt}, DXs K H vs ds → vs.length = ds.length
  | _, _, .nil => rfl
  | _, _, .cons _ k => by rw [List.length_cons, List.length_cons, DXs.len k]
theorem DXs.at_ {K : PySem.W.Frag} {H : Hp} : ∀ {vs : List V} {ds : List Dt} {i : Nat} {d : Dt}, DXs K H vs ds → ds[i]? = some d → ∃ v, vs[i]? = some v ∧ DX K H v d
  | _, _, _, _, .nil, h => by simp at h
  | _, _, 0, _, .cons (v := v) r _, h => by
    simp at h
    subst h
    exact ⟨v, rfl, r⟩
  | _, _, i + 1, _, .cons _ k, h => by
    simp at h
    obtain ⟨v, h1, h2⟩ := DXs.at_ k h
    exact ⟨v, by simpa using h1, h2⟩
theorem DXs.atV {K : PySem.W.Frag} {H : Hp} : ∀ {vs : List V} {ds : List Dt} {i : Nat} {v : V}, DXs K H vs ds → vs[i]? = some v → ∃ d, ds[i]? = some d ∧ DX K H v d
  | _, _, _, _, .nil, h => by simp at h
  | _, _, 0, _, .cons (d := d) r _, h => by
    simp at h
    subst h
    exact ⟨d, rfl, r⟩
  | _, _, i + 1, _, .cons _ k, h => by
    simp at h
    obtain ⟨v, h1, h2⟩ := DXs.atV k h
    exact ⟨v, by simpa using h1, h2⟩
theorem DXs.append {K : PySem.W.Frag} {H : Hp} : ∀ {vs us : List V} {ds es : List Dt}, DXs K H vs ds → DXs K H us es → DXs K H (vs ++ us) (ds ++ es)
  | _, _, _, _, .nil, k => k
  | _, _, _, _, .cons r t, k => .cons r (DXs.append t k)
theorem DXs.drop {K : PySem.W.Frag} {H : Hp} : ∀ {vs : List V} {ds : List Dt} (n : Nat), DXs K H vs ds → DXs K H (vs.drop n) (ds.drop n)
  | _, _, 0, k => k
  | _, _, _ + 1, .nil => .nil
  | _, _, n + 1, .cons _ k => DXs.drop n k
theorem DXs.take {K : PySem.W.Frag} {H : Hp} : ∀ {vs : List V} {ds : List Dt} (n : Nat), DXs K H vs ds → DXs K H (vs.take n) (ds.take n)
  | _, _, 0, _ => .nil
  | _, _, _ + 1, .nil => .nil
  | _, _, n + 1, .cons r k => .cons r (DXs.take n k)
/-! ### as the library's data -/
mutual
def Dt.plain : Dt → Bool
  | .lst ds => plains ds
  | .tup ds => plains ds
  | .dct _ => false
  | .dck _ => false
  | .obj _ _ => false
  | .sp _ => false
  | _ => true
def plains : List Dt → Bool
  | [] => true
  | d :: ds => d.plain && plains ds
end
mutual
def Dt.pd : Dt → PyData
  | .non => .none
  | .bl b => .bool b
  | .int i => .int i
  | .str s => .str s
  | .lst ds => .list (pds ds)
  | .tup ds => .tuple (pds ds)
  | _ => .none
def pds : List Dt → List PyData
  | [] => []
  | d :: ds => d.pd :: pds ds
end
mutual
theorem DX.dp {K : PySem.W.Frag} {H : Hp} : ∀ {v : V} {d : Dt}, DX K H v d → d.plain = true → Dp K H v d.pd
  | _, _, .non, _ => .non
  | _, _, .bl b, _ => .bl b
  | _, _, .int i, _ => .int i
  | _, _, .str s, _ => .str s
  | _, _, .lst h _ k, p => .lst (.inl (.inl h)) (DXs.dp k p)
  | _, _, .tup h _ k, p => .tup (.inl (.inl h)) (DXs.dp k p)
  | _, _, .dct _ _, p => nomatch p
  | _, _, .dck _ _, p => nomatch p
  | _, _, .obj _ _, p => nomatch p
  | _, _, .sp _, p => nomatch p
theorem DXs.dp {K : PySem.W.Frag} {H : Hp} : ∀ {vs : List V} {ds : List Dt}, DXs K H vs ds → plains ds = true → DpAll K H vs (pds ds)
  | _, _, .nil, _ => .nil
  | _, _, .cons h k, p => by
    rw [plains, Bool.and_eq_true] at p
    exact .cons (DX.dp h p.1) (DXs.dp k p.2)
end
/-- what isinstance asks -/
def Dt.ty : Dt → Value
  | .non => .type "NoneType"
  | .bl _ => .type "bool"
  | .int _ => .type "int"
  | .str _ => .type "str"
  | .lst _ => .type "list"
  | .tup _ => .type "tuple"
  | .dct _ => .type "dict"
  | .dck _ => .type "dict"
  | .obj C _ => .ref C
  | .sp _ => .type "?"
theorem DX.tyx {K : PySem.W.Frag} {H : Hp} {v : V} {d : Dt} (h : DX K H v d) (n : (∀ C fs, d ≠ .obj C fs) ∧ ∀ B, d ≠ .sp B) : TyX K H v d.ty := by
  cases h with
  | non => exact .base .non
  | bl b => exact .base (.bl b)
  | int i => exact .base (.int i)
  | str s => exact .base (.str s)
  | lst h _ _ => exact .base (.lst h)
  | tup h _ _ => exact ty_tuple (.inl (.inl h))
  | dct h _ => exact .base (.dT h)
  | dck h _ => exact .base (.dK h)
  | obj h _ => exact absurd rfl (n.1 _ _)
  | sp h => exact absurd rfl (n.2 _)
/-! ### what is hidden -/
open Classical in
/-- without P and without the tables of code objects -/
noncomputable def hidP (P : Addr → Prop) (H : Hp) : Hp := fun b => if P b ∨ ∃ ps, H b = some (.tbl ps) then none else H b
theorem hidP_mk {P : Addr → Prop} {H : Hp} {b : Addr} {o : HO} (h : ¬ P b) (e : H b = some o) (n : ∀ ps, o ≠ .tbl ps) : hidP P H b = some o := by
  unfold hidP
  rw [if_neg]
  · exact e
  · rintro (z | ⟨ps, z⟩)
    · exact h z
    · rw [e] at z
      exact n ps (Option.some.inj z)
theorem hidP_some {P : Addr → Prop} {H : Hp} {b : Addr} {o : HO} (e : hidP P H b = some o) : ¬ P b ∧ H b = some o ∧ ∀ ps, o ≠ .tbl ps := by
  unfold hidP at e
  split at e
  · cases e
  · rename_i h
    exact ⟨fun z => h (.inl z), e, fun ps z => h (.inr ⟨ps, by rw [e, z]⟩)⟩
theorem hidP_less {P : Addr → Prop} {H : Hp} : Same (hidP P H) H := fun b o e => (hidP_some e).2.1
theorem hidP_same {P P' : Addr → Prop} {H H' : Hp} (s : ∀ b o, H b = some o → (∀ ps, o ≠ .tbl ps) → ¬ P b → ¬ P' b ∧ H' b = some o) : Same (hidP P H) (hidP P' H') := fun b o e => by
  obtain ⟨h1, h2, h3⟩ := hidP_some e
  obtain ⟨h4, h5⟩ := s b o h2 h3 h1
  exact hidP_mk h4 h5 h3
end DL
/-! part KitL -/
namespace My
open PySem PySem.Spec PyProof.Rows L2
section
variable {J : It} {n : Nat} {G : Hp → Prop} {Y : Nat → Hp → V → Hp → Prop} {g : TG} {tt : TT} {te : TE} {vs : List Nat} {σ : L2.St} {H1 : Hp} {D : Addr} {Qd : Hp → Prop}
/-- a comprehension whose items are only known to be Ok; D holds a list meanwhile -/
theorem lc_relD (w : Walk J n G Y) (Ok : Nat → V → Hp → Prop) (small : n < sizeLine) (nD : H1 D = none) (hG : ∀ H', Same H1 H' → G H') (mono : ∀ i y H H', (∀ b o, b ≠ D → H b = some o → H' b = some o) → Ok i y H → Ok i y H')
    (hs : ∀ (i : Nat) (x : V) (H H' : Hp) (R : V → Hp → Prop) (Rn : Hp → Prop), i < n → Same H1 H → (∃ zs, H D = some (.lst zs)) → Y i H x H' → (∀ y H4, Same H H4 → Ok i y H4 → R y H4) →
      g x (wipe σ vs) H' fun σ2 H2 => wipe σ2 vs = wipe σ vs ∧ tt σ2 H2 fun b H3 => if b = true then te σ2 H3 R else Rn H3)
    (hd : ∀ H' ys, Same H1 H' → ys.length = n → (∀ i y, ys[i]? = some y → Ok i y H') → H' D = some (.lst ys) → Qd H') :
    ∃ W : Nat → Nat → Hp → Prop, (∃ m, W 0 m (upd H1 D (.lst []))) ∧ ∀ i m H, W i m H →
      (J.stop i H ∧ Qd H) ∨ (J.go i H ∧ ∃ Nx : Hp → Prop, (∀ H', Nx H' → ∃ m', m' < m ∧ W (i + 1) m' H') ∧ ∀ x H', J.yld i H x H' → g x (wipe σ vs) H' fun σ2 H2 => wipe σ2 vs = wipe σ vs ∧ tt σ2 H2 fun b H3 =>
        if b = true then te σ2 H3 fun y H4 => ∃ acc, H4 D = some (.lst acc) ∧ acc.length < sizeLine ∧ Nx (upd H4 D (.lst (acc ++ [y]))) else Nx H3) := by
  refine lc_it w (fun i H => Same H1 H ∧ ∃ ys : List V, ys.length = i ∧ (∀ k y, ys[k]? = some y → Ok k y H) ∧ H D = some (.lst ys)) ?_ (fun i H _ p => hG H p.1) (fun i x H H' hi p y => ?_) (fun H p => ?_)
  · exact ⟨same_new nD _, [], rfl, fun k y h => by simp at h, upd_same⟩
  · obtain ⟨s1, ys, rfl, ok, e⟩ := p
    refine hs ys.length x H H' _ _ hi s1 ⟨_, e⟩ y fun z H4 s o4 => ?_
    refine ⟨_, s _ _ e, Nat.lt_trans hi small, fun b o q => ?_, ys ++ [z], by rw [List.length_append, List.length_singleton], fun k u hu => ?_, upd_same⟩
    · rw [upd_ne (ne_of_none q nD)]
      exact s _ _ (s1 _ _ q)
    · have back : ∀ b o, b ≠ D → H4 b = some o → upd H4 D (.lst (ys ++ [z])) b = some o := fun b o hb q => by rw [upd_ne hb]; exact q
      by_cases hk : k < ys.length
      · rw [List.getElem?_append_left hk] at hu
        exact mono k u _ _ back (mono k u _ _ (fun b o _ q => s b o q) (ok k u hu))
      · rw [List.getElem?_append_right (by omega)] at hu
        have k0 : k = ys.length := by
          have := (List.getElem?_eq_some_iff.mp hu).1
          rw [List.length_singleton] at this
          omega
        subst k0
        rw [Nat.sub_self] at hu
        obtain rfl : z = u := Option.some.inj hu
        exact mono _ _ _ _ back o4
  · obtain ⟨s1, ys, h2, ok, e⟩ := p
    exact hd H ys s1 h2 ok e
end
end My
/-! part DL2 -/
namespace DL
open PySem PySem.Spec PyProof.Rows L2 My
/-- a thing of one's own: a list, a dict (with whole numbers and texts as keys, with flat tuples as keys) -/
inductive Cn where
  | lst (ds : List Dt) | dk (ps : List (Key × Dt)) | dt (ps : List (List Key × Dt))
instance : Coe (List Dt) Cn := ⟨Cn.lst⟩
/-- as data -/
def Cn.dat : Cn → Dt
  | .lst ds => .lst ds
  | .dk ps => .dck ps
  | .dt ps => .dct ps
/-- a slot: not told, data that stands still, a thing of one's own -/
inductive Sl where
  | no | dat (d : Dt) | own (c : Cn)
abbrev En := List Sl
/-- a thing that may change, and so may be hidden -/
def Hd : HO → Prop
  | .lst _ => True
  | .dK _ => True
  | .dT _ => True
  | .set _ _ => True
  | .ins _ _ _ => True
  | .own _ => True
  | .xd _ => True
  | _ => False
theorem hd_lst {xs : List V} : Hd (.lst xs) := trivial
theorem Hd.ntb {o : HO} (h : Hd o) : ∀ ps, o ≠ .tbl ps := fun ps z => by
  subst z
  exact h
theorem Hd.ntp {o : HO} (h : Hd o) : ∀ ps, o ≠ .tup ps := fun ps z => by
  subst z
  exact h
/-- the object o is the thing c, its parts seen in H -/
inductive CnX (K : PySem.W.Frag) (H : Hp) : HO → Cn → Prop
  | lst {vs : List V} {ds : List Dt} : vs.length ≤ 1000000 → DXs K H vs ds → CnX K H (.lst vs) (.lst ds)
  | dk {kvs : List (Key × V)} {ps : List (Key × Dt)} : kvs.length ≤ 1000000 → DXk K H kvs ps → CnX K H (.dK kvs) (.dk ps)
  | dt {kvs : List (List Key × V)} {ps : List (List Key × Dt)} : kvs.length ≤ 1000000 → DXt K H kvs ps → CnX K H (.dT kvs) (.dt ps)
theorem CnX.same {K : PySem.W.Frag} {H H' : Hp} (s : Same H H') {o : HO} {c : Cn} (x : CnX K H o c) : CnX K H' o c := by
  cases x with
  | lst l x => exact .lst l (x.same s)
  | dk l x => exact .dk l (x.same s)
  | dt l x => exact .dt l (x.same s)
theorem CnX.hd {K : PySem.W.Frag} {H : Hp} {o : HO} {c : Cn} (x : CnX K H o c) : Hd o := by
  cases x <;> trivial
theorem CnX.l {K : PySem.W.Frag} {H : Hp} {o : HO} {ds : List Dt} (x : CnX K H o (.lst ds)) : ∃ vs, o = .lst vs ∧ vs.length ≤ 1000000 ∧ DXs K H vs ds := by
  cases x with
  | lst l x => exact ⟨_, rfl, l, x⟩
theorem CnX.data {K : PySem.W.Frag} {H : Hp} {a : Addr} {o : HO} {c : Cn} (x : CnX K H o c) (e : H a = some o) : DX K H (.ref a) c.dat := by
  cases x with
  | lst l x => exact .lst e l x
  | dk l x => exact .dck e x
  | dt l x => exact .dct e x
/-- what is seen stays, and stays seen -/
def Kp (P : Addr → Prop) (H : Hp) (P' : Addr → Prop) (H' : Hp) : Prop := ∀ b o, H b = some o → ¬ P b → ¬ P' b ∧ H' b = some o
theorem Kp.same {P P' : Addr → Prop} {H H' : Hp} (k : Kp P H P' H') : Same (hidP P H) (hidP P' H') := hidP_same fun b o e _ n => k b o e n
theorem Kp.of {P : Addr → Prop} {H H' : Hp} (s : Same H H') : Kp P H P H' := fun b o e n => ⟨n, s b o e⟩
/-- what else may change: a state, how it lies in the heap (its parts seen beside P), where; the tables of code objects -/
structure Am (S : Type) where
  at_ : S → (Addr → Prop) → Hp → Prop
  foot : Addr → Prop
  tab : Addr → Prop
  has : ∀ s P H a, at_ s P H → foot a → ∃ o, H a = some o ∧ Hd o
  hasT : ∀ s P H a, at_ s P H → tab a → ∃ ps, H a = some (.tbl ps)
  move : ∀ s P P' H H', at_ s P H → Kp P H P' H' → (∀ b o, H b = some o → foot b → H' b = some o) → at_ s P' H'
theorem Am.grow {S : Type} (A : Am S) {s : S} {P : Addr → Prop} {H H' : Hp} (h : A.at_ s P H) (m : Same H H') : A.at_ s P H' := A.move _ _ _ _ _ h (Kp.of m) fun b o e _ => m b o e
/-- nothing else -/
def Am.none : Am Unit := ⟨fun _ _ _ => True, fun _ => False, fun _ => False, fun _ _ _ _ _ h => h.elim, fun _ _ _ _ _ h => h.elim, fun _ _ _ _ _ _ _ _ => trivial⟩
def hidn (F : Addr → Prop) (O : Nat → Addr) (ρ : En) : Addr → Prop := fun b => F b ∨ ∃ (i : Nat) (c : Cn), ρ[i]? = some (Sl.own c) ∧ O i = b
section
variable {S : Type}
structure Stt (K : PySem.W.Frag) (A : Am S) (F : Addr → Prop) (H0 : Hp) (O : Nat → Addr) (σ : L2.St) (H : Hp) (τ : En × S) : Prop where
  am : A.at_ τ.2 (hidn F O τ.1) H
  am0 : ∃ s0 P0, A.at_ s0 P0 H0
  fin : ∀ a, A.foot a → F a
  fex : ∀ a, F a → ∃ o, H0 a = some o ∧ Hd o
  ev : ∀ b o, H0 b = some o → ¬ A.foot b → ¬ A.tab b → H b = some o
  dat : ∀ (i : Nat) (d : Dt), τ.1[i]? = some (Sl.dat d) → ∃ v, σ[i]? = some (some v) ∧ DX K (hidP (hidn F O τ.1) H) v d
  own : ∀ (i : Nat) (c : Cn), τ.1[i]? = some (Sl.own c) → ∃ o, σ[i]? = some (some (.ref (O i))) ∧ H0 (O i) = Option.none ∧ H (O i) = some o ∧ CnX K (hidP (hidn F O τ.1) H) o c
  inj : ∀ (i j : Nat) (c e : Cn), τ.1[i]? = some (Sl.own c) → τ.1[j]? = some (Sl.own e) → O i = O j → i = j
  len : τ.1.length = σ.length
variable {K : PySem.W.Frag} {A : Am S} {F : Addr → Prop} {H0 : Hp} {O : Nat → Addr} {σ : L2.St} {H H' : Hp} {τ : En × S}
theorem Stt.ownL (st : Stt K A F H0 O σ H τ) {i : Nat} {ds : List Dt} (h : τ.1[i]? = some (.own (.lst ds))) : ∃ vs, σ[i]? = some (some (.ref (O i))) ∧ H0 (O i) = Option.none ∧ H (O i) = some (.lst vs) ∧ vs.length ≤ 1000000 ∧ DXs K (hidP (hidn F O τ.1) H) vs ds := by
  obtain ⟨o, h1, h2, h3, h4⟩ := st.own i _ h
  obtain ⟨vs, rfl, l, x⟩ := h4.l
  exact ⟨vs, h1, h2, h3, l, x⟩
theorem Stt.grow (st : Stt K A F H0 O σ H τ) (s : Same H H') : Stt K A F H0 O σ H' τ := by
  have sh : Same (hidP (hidn F O τ.1) H) (hidP (hidn F O τ.1) H') := (Kp.of s).same
  refine ⟨A.grow st.am s, st.am0, st.fin, st.fex, fun b o e n f => s b o (st.ev b o e n f), fun i d h => ?_, fun i ds h => ?_, st.inj, st.len⟩
  · obtain ⟨v, h1, h2⟩ := st.dat i d h
    exact ⟨v, h1, h2.same sh⟩
  · obtain ⟨vs, h1, h2, h3, h4⟩ := st.own i ds h
    exact ⟨vs, h1, h2, s _ _ h3, h4.same sh⟩
theorem Stt.noTab (st : Stt K A F H0 O σ H τ) {a : Addr} (f : F a) : ¬ A.tab a := fun t => by
  obtain ⟨o, e1, e2⟩ := st.fex a f
  obtain ⟨s0, P0, h0⟩ := st.am0
  obtain ⟨ps, e3⟩ := A.hasT _ _ _ _ h0 t
  rw [e3] at e1
  cases e1
  exact e2
/-- a new address is not hidden -/
theorem Stt.fresh (st : Stt K A F H0 O σ H τ) {p : Addr} (np : H p = Option.none) : ¬ hidn F O τ.1 p := fun h => by
  rcases h with h | ⟨i, ds, h, e⟩
  · by_cases f : A.foot p
    · obtain ⟨o, e, _⟩ := A.has _ _ _ _ st.am f
      rw [np] at e
      cases e
    · obtain ⟨o, e1, e2⟩ := st.fex p h
      rw [st.ev p o e1 f (st.noTab h)] at np
      cases np
  · obtain ⟨vs, _, _, h3, _⟩ := st.own i ds h
    rw [e, np] at h3
    cases h3
/-- all that is hidden is there, and may change -/
theorem Stt.ex (st : Stt K A F H0 O σ H τ) {a : Addr} (h : hidn F O τ.1 a) : ∃ o, H a = some o ∧ Hd o := by
  rcases h with h | ⟨i, ds, h, rfl⟩
  · by_cases f : A.foot a
    · exact A.has _ _ _ _ st.am f
    · obtain ⟨o, e1, e2⟩ := st.fex a h
      exact ⟨o, st.ev a o e1 f (st.noTab h), e2⟩
  · obtain ⟨o, _, _, g3, g4⟩ := st.own i ds h
    exact ⟨_, g3, g4.hd⟩
/-- weakest preconditions over slots and state -/
structure WE (S : Type) where
  f : (En × S) → (Dt → En × S → Prop) → Prop
  mono : ∀ τ k k', (∀ d τ', k d τ' → k' d τ') → f τ k → f τ k'
structure WA (S : Type) where
  f : (En × S) → (List Dt → En × S → Prop) → Prop
  mono : ∀ τ k k', (∀ d τ', k d τ' → k' d τ') → f τ k → f τ k'
structure WT (S : Type) where
  f : (En × S) → (Bool → En × S → Prop) → Prop
  mono : ∀ τ k k', (∀ d τ', k d τ' → k' d τ') → f τ k → f τ k'
abbrev Keep (F : Addr → Prop) (O : Nat → Addr) (ρ : En) (H : Hp) (O' : Nat → Addr) (ρ' : En) (H' : Hp) : Prop := Same (hidP (hidn F O ρ) H) (hidP (hidn F O' ρ') H')
def tE (K : PySem.W.Frag) (A : Am S) (w : WE S) : TE := fun σ H Q => ∃ F H0 O τ, Stt K A F H0 O σ H τ ∧ w.f τ fun d τ' => ∀ H' v O', Stt K A F H0 O' σ H' τ' → Keep F O τ.1 H O' τ'.1 H' → DX K (hidP (hidn F O' τ'.1) H') v d → Q v H'
def tAs (K : PySem.W.Frag) (A : Am S) (w : WA S) : TA := fun σ H Q => ∃ F H0 O τ, Stt K A F H0 O σ H τ ∧ w.f τ fun ds τ' => ∀ H' vs O', Stt K A F H0 O' σ H' τ' → Keep F O τ.1 H O' τ'.1 H' → DXs K (hidP (hidn F O' τ'.1) H') vs ds → Q vs H'
def tTs (K : PySem.W.Frag) (A : Am S) (w : WT S) : TT := fun σ H Q => ∃ F H0 O τ, Stt K A F H0 O σ H τ ∧ w.f τ fun b τ' => ∀ H' O', Stt K A F H0 O' σ H' τ' → Keep F O τ.1 H O' τ'.1 H' → Q b H'
section
variable {K : PySem.W.Frag} {A : Am S} {F : Addr → Prop} {H0 : Hp} {O : Nat → Addr} {σ : L2.St} {H : Hp} {τ : En × S}
theorem bindE {w : WE S} {R : Dt → En × S → Prop} {Q : V → Hp → Prop} (st : Stt K A F H0 O σ H τ) (h : w.f τ R) (k : ∀ H' v O' d τ', Stt K A F H0 O' σ H' τ' → Keep F O τ.1 H O' τ'.1 H' → DX K (hidP (hidn F O' τ'.1) H') v d → R d τ' → Q v H') : tE K A w σ H Q :=
  ⟨F, H0, O, τ, st, w.mono _ _ _ (fun d τ' r H' v O' s1 s2 x => k H' v O' d τ' s1 s2 x r) h⟩
theorem bindA {w : WA S} {R : List Dt → En × S → Prop} {Q : List V → Hp → Prop} (st : Stt K A F H0 O σ H τ) (h : w.f τ R) (k : ∀ H' v O' d τ', Stt K A F H0 O' σ H' τ' → Keep F O τ.1 H O' τ'.1 H' → DXs K (hidP (hidn F O' τ'.1) H') v d → R d τ' → Q v H') : tAs K A w σ H Q :=
  ⟨F, H0, O, τ, st, w.mono _ _ _ (fun d τ' r H' v O' s1 s2 x => k H' v O' d τ' s1 s2 x r) h⟩
theorem bindT {w : WT S} {R : Bool → En × S → Prop} {Q : Bool → Hp → Prop} (st : Stt K A F H0 O σ H τ) (h : w.f τ R) (k : ∀ H' O' d τ', Stt K A F H0 O' σ H' τ' → Keep F O τ.1 H O' τ'.1 H' → R d τ' → Q d H') : tTs K A w σ H Q :=
  ⟨F, H0, O, τ, st, w.mono _ _ _ (fun d τ' r H' O' s1 s2 => k H' O' d τ' s1 s2 r) h⟩
end
/-! ### names, constants, displays -/
def wVar (i : Nat) : WE S := ⟨fun τ k => match τ.1[i]? with | some (Sl.dat d) => k d τ | _ => False, fun τ k k' m h => by
  revert h
  split
  · exact m _ _
  · exact id⟩
def wC (d : Dt) : WE S := ⟨fun τ k => k d τ, fun _ _ _ m h => m _ _ h⟩
def wNil : WA S := ⟨fun τ k => k [] τ, fun _ _ _ m h => m _ _ h⟩
def wCons (e : WE S) (r : WA S) : WA S := ⟨fun τ k => e.f τ fun d τ1 => r.f τ1 fun ds τ2 => k (d :: ds) τ2, fun τ k k' m h => e.mono _ _ _ (fun d τ1 h1 => r.mono _ _ _ (fun ds τ2 h2 => m _ _ h2) h1) h⟩
def wTup (a : WA S) : WE S := ⟨fun τ k => a.f τ fun ds τ1 => ds.length ≤ 1000000 ∧ k (.tup ds) τ1, fun τ k k' m h => a.mono _ _ _ (fun ds τ1 h1 => ⟨h1.1, m _ _ h1.2⟩) h⟩
def wLst (a : WA S) : WE S := ⟨fun τ k => a.f τ fun ds τ1 => ds.length ≤ 1000000 ∧ k (.lst ds) τ1, fun τ k k' m h => a.mono _ _ _ (fun ds τ1 h1 => ⟨h1.1, m _ _ h1.2⟩) h⟩
theorem mil {n : Nat} (h : n ≤ 1000000) : n ≤ sizeLine := Nat.le_trans h (by unfold sizeLine; decide)
section
variable {X : Cx} {K : PySem.W.Frag} {A : Am S} {e : Expr} {es : List Expr} {pos : Pos} (hK : X.K = K)
theorem d_var {i : Nat} (h : PE X e (tVar i)) : PE X e (tE K A (wVar i)) := PE.imp h fun σ H Q ⟨F, H0, O, τ, st, q⟩ => by
  unfold wVar at q
  dsimp only at q
  split at q
  · rename_i d hd
    obtain ⟨v, h1, h2⟩ := st.dat i d hd
    exact ⟨v, h1, q H v O st (Same.refl _) h2⟩
  · exact q.elim
theorem d_c {v : V} {d : Dt} (h : PE X e (tC v)) (x : ∀ H, DX K H v d) : PE X e (tE K A (wC d)) := PE.imp h fun σ H Q ⟨F, H0, O, τ, st, q⟩ => q H v O st (Same.refl _) (x _)
theorem d_int {i : Int} (h : PE X e (tC (.int i))) : PE X e (tE K A (wC (.int i))) := d_c h fun _ => .int i
theorem d_str {z : Str} (h : PE X e (tC (.str z))) : PE X e (tE K A (wC (.str z))) := d_c h fun _ => .str z
theorem d_bl {b : Bool} (h : PE X e (tC (.bl b))) : PE X e (tE K A (wC (.bl b))) := d_c h fun _ => .bl b
theorem d_non (h : PE X e (tC .non)) : PE X e (tE K A (wC .non)) := d_c h fun _ => .non
theorem a_nil : PA X [] (tAs K A (wNil : WA S)) := PA.imp pa_nil fun σ H Q ⟨F, H0, O, τ, st, q⟩ => q H [] O st (Same.refl _) .nil
theorem a_cons {w : WE S} {r : WA S} (he : PE X e (tE K A w)) (hr : PA X es (tAs K A r)) (hs : starEach (e :: es) X.env = (false, eval e X.env) :: starEach es X.env := by rfl) : PA X (e :: es) (tAs K A (wCons w r)) :=
  PA.imp (pa_cons he hr hs) fun σ H Q ⟨F, H0, O, τ, st, q⟩ => bindE st q fun H1 v O1 d τ1 st1 k1 x1 q1 => bindA st1 q1 fun H2 vs O2 ds τ2 st2 k2 x2 q2 => q2 H2 (v :: vs) O2 st2 (k1.trans k2) (.cons (x1.same k2) x2)
theorem d_tup {w : WA S} {x1} (h : PA X es (tAs K A w)) : PE X (.Tuple es x1 pos) (tE K A (wTup w)) :=
  PE.imp (pe_tup h) fun σ H Q ⟨F, H0, O, τ, st, q⟩ => bindA st q fun H1 vs O1 ds τ1 st1 k1 x1 ⟨l, q1⟩ => by
    have lv : vs.length ≤ 1000000 := by rw [x1.len]; exact l
    refine ⟨mil lv, fun p np => ?_⟩
    have s2 := same_new np (.tup vs)
    have nh := st1.fresh np
    have sh : Same (hidP (hidn F O1 τ1.1) H1) (hidP (hidn F O1 τ1.1) (upd H1 p (.tup vs))) := hidP_same fun b o e _ n => ⟨n, s2 b o e⟩
    exact q1 _ _ O1 (st1.grow s2) (k1.trans sh) (.tup (hidP_mk nh upd_same fun ps z => nomatch z) lv (x1.same sh))
theorem d_lst {w : WA S} (h : PA X es (tAs K A w)) : PE X (.List es pos) (tE K A (wLst w)) :=
  PE.imp (pe_lst h) fun σ H Q ⟨F, H0, O, τ, st, q⟩ => bindA st q fun H1 vs O1 ds τ1 st1 k1 x1 ⟨l, q1⟩ => by
    have lv : vs.length ≤ 1000000 := by rw [x1.len]; exact l
    refine ⟨mil lv, fun p np => ?_⟩
    have s2 := same_new np (.lst vs)
    have nh := st1.fresh np
    have sh : Same (hidP (hidn F O1 τ1.1) H1) (hidP (hidn F O1 τ1.1) (upd H1 p (.lst vs))) := hidP_same fun b o e _ n => ⟨n, s2 b o e⟩
    exact q1 _ _ O1 (st1.grow s2) (k1.trans sh) (.lst (hidP_mk nh upd_same fun ps z => nomatch z) lv (x1.same sh))
end
end
end DL
/-! part DL3 -/
namespace DL
open PySem PySem.Spec PyProof.Rows L2 My
/-! ### operations by their values -/
/-- what a two-place operation does to data -/
def Op2 (K : PySem.W.Frag) (r : R2) (g : Dt → Dt → Option Dt) : Prop := ∀ (P : Addr → Prop) (x y : V) (d e c : Dt) (H : Hp) (Q : VK), (∀ p, H p = none → ¬ P p) → DX K (hidP P H) x d → DX K (hidP P H) y e → g d e = some c →
  (∀ H' v, Same H H' → DX K (hidP P H') v c → Q v H') → r x y H Q
def Op1 (K : PySem.W.Frag) (r : V → Hp → VK → Prop) (g : Dt → Option Dt) : Prop := ∀ (P : Addr → Prop) (x : V) (d c : Dt) (H : Hp) (Q : VK), (∀ p, H p = none → ¬ P p) → DX K (hidP P H) x d → g d = some c →
  (∀ H' v, Same H H' → DX K (hidP P H') v c → Q v H') → r x H Q
def OpN (K : PySem.W.Frag) (r : List V → Hp → VK → Prop) (g : List Dt → Option Dt) : Prop := ∀ (P : Addr → Prop) (xs : List V) (ds : List Dt) (c : Dt) (H : Hp) (Q : VK), (∀ p, H p = none → ¬ P p) → DXs K (hidP P H) xs ds → g ds = some c →
  (∀ H' v, Same H H' → DX K (hidP P H') v c → Q v H') → r xs H Q
def OpM (K : PySem.W.Frag) (r : V → List V → Hp → VK → Prop) (g : Dt → List Dt → Option Dt) : Prop := ∀ (P : Addr → Prop) (x : V) (xs : List V) (d : Dt) (ds : List Dt) (c : Dt) (H : Hp) (Q : VK), (∀ p, H p = none → ¬ P p) → DX K (hidP P H) x d → DXs K (hidP P H) xs ds → g d ds = some c →
  (∀ H' v, Same H H' → DX K (hidP P H') v c → Q v H') → r x xs H Q
/-- the answer of a partial operation -/
def optK (o : Option Dt) (k : Dt → Prop) : Prop := match o with | some c => k c | none => False
theorem optK_mono {o : Option Dt} {k k' : Dt → Prop} (m : ∀ c, k c → k' c) (h : optK o k) : optK o k' := by
  cases o with
  | none => exact h.elim
  | some c => exact m c h
section
variable {S : Type}
def wO2 (g : Dt → Dt → Option Dt) (a b : WE S) : WE S := ⟨fun τ k => a.f τ fun d τ1 => b.f τ1 fun e τ2 => optK (g d e) fun c => k c τ2, fun τ k k' m h => a.mono _ _ _ (fun d τ1 h1 => b.mono _ _ _ (fun e τ2 h2 => optK_mono (fun c => m c τ2) h2) h1) h⟩
def wO1 (g : Dt → Option Dt) (a : WE S) : WE S := ⟨fun τ k => a.f τ fun d τ1 => optK (g d) fun c => k c τ1, fun τ k k' m h => a.mono _ _ _ (fun d τ1 h2 => optK_mono (fun c => m c τ1) h2) h⟩
def wON (g : List Dt → Option Dt) (a : WA S) : WE S := ⟨fun τ k => a.f τ fun d τ1 => optK (g d) fun c => k c τ1, fun τ k k' m h => a.mono _ _ _ (fun d τ1 h2 => optK_mono (fun c => m c τ1) h2) h⟩
def wOM (g : Dt → List Dt → Option Dt) (a : WE S) (b : WA S) : WE S := ⟨fun τ k => a.f τ fun d τ1 => b.f τ1 fun e τ2 => optK (g d e) fun c => k c τ2, fun τ k k' m h => a.mono _ _ _ (fun d τ1 h1 => b.mono _ _ _ (fun e τ2 h2 => optK_mono (fun c => m c τ2) h2) h1) h⟩
/-- a value that is True or False, as a test -/
def wTst (a : WE S) : WT S := ⟨fun τ k => a.f τ fun d τ1 => match d with | .bl b => k b τ1 | _ => False, fun τ k k' m h => a.mono _ _ _ (fun d τ1 h2 => by
  revert h2
  split
  · exact m _ _
  · exact id) h⟩
def wNotT (a : WT S) : WT S := ⟨fun τ k => a.f τ fun b τ1 => k (!b) τ1, fun τ k k' m h => a.mono _ _ _ (fun d τ1 h2 => m _ _ h2) h⟩
def wAndT (a b : WT S) : WT S := ⟨fun τ k => a.f τ fun c τ1 => if c = true then b.f τ1 k else k false τ1, fun τ k k' m h => a.mono _ _ _ (fun d τ1 h2 => by
  revert h2
  split
  · exact b.mono _ _ _ m
  · exact m _ _) h⟩
def wOrT (a b : WT S) : WT S := ⟨fun τ k => a.f τ fun c τ1 => if c = true then k true τ1 else b.f τ1 k, fun τ k k' m h => a.mono _ _ _ (fun d τ1 h2 => by
  revert h2
  split
  · exact m _ _
  · exact b.mono _ _ _ m) h⟩
def wNot (a : WE S) : WE S := wO1 (fun d => match d with | .bl b => some (.bl !b) | _ => none) a
def wAnd (a b : WE S) : WE S := ⟨fun τ k => a.f τ fun d τ1 => match d with | .bl c => if c = true then b.f τ1 k else k (.bl false) τ1 | _ => False, fun τ k k' m h => a.mono _ _ _ (fun d τ1 h2 => by
  revert h2
  split
  · split
    · exact b.mono _ _ _ m
    · exact m _ _
  · exact id) h⟩
def wOr (a b : WE S) : WE S := ⟨fun τ k => a.f τ fun d τ1 => match d with | .bl c => if c = true then k (.bl true) τ1 else b.f τ1 k | _ => False, fun τ k k' m h => a.mono _ _ _ (fun d τ1 h2 => by
  revert h2
  split
  · split
    · exact m _ _
    · exact b.mono _ _ _ m
  · exact id) h⟩
def wIf (t : WT S) (a b : WE S) : WE S := ⟨fun τ k => t.f τ fun c τ1 => if c = true then a.f τ1 k else b.f τ1 k, fun τ k k' m h => t.mono _ _ _ (fun d τ1 h2 => by
  revert h2
  split
  · exact a.mono _ _ _ m
  · exact b.mono _ _ _ m) h⟩
section
variable {X : Cx} {K : PySem.W.Frag} {A : Am S} {a b o e c : Expr} {es rest : List Expr} {pos p cpos apos : Pos}
theorem some_of {o : Option Dt} {k : Dt → Prop} (h : optK o k) : ∃ c, o = some c ∧ k c := by
  cases o with
  | none => exact h.elim
  | some c => exact ⟨c, rfl, h⟩
theorem keepS {F : Addr → Prop} {O : Nat → Addr} {ρ : En} {H H' : Hp} (s : Same H H') : Keep F O ρ H O ρ H' := hidP_same fun b o e _ n => ⟨n, s b o e⟩
theorem run2 {r : R2} {g : Dt → Dt → Option Dt} {wa wb : WE S} (hg : Op2 K r g) {σ : L2.St} {H : Hp} {Q : VK} (h : tE K A (wO2 g wa wb) σ H Q) : tOp r (tE K A wa) (tE K A wb) σ H Q := by
  obtain ⟨F, H0, O, τ, st, q⟩ := h
  refine bindE st q fun H1 v O1 d τ1 st1 k1 x1 q1 => bindE st1 q1 fun H2 u O2 e τ2 st2 k2 x2 q2 => ?_
  obtain ⟨c, hc, q3⟩ := some_of q2
  refine hg _ v u d e c H2 Q (fun p np => st2.fresh np) (x1.same k2) x2 hc fun H' z s x => q3 H' z O2 (st2.grow s) ((k1.trans k2).trans (keepS s)) x
theorem d_bin {op : Operator} {r : R2} {g : Dt → Dt → Option Dt} {wa wb : WE S} (ho : OpR X (binaryOp op) r) (hg : Op2 K r g) (ha : PE X a (tE K A wa)) (hb : PE X b (tE K A wb)) : PE X (.BinOp a op b pos) (tE K A (wO2 g wa wb)) := PE.imp (pe_op ho ha hb) fun _ _ _ => run2 hg
theorem d_cmp {op : CmpOp} {r : R2} {g : Dt → Dt → Option Dt} {wa wb : WE S} (ho : OpR X (compareOp op) r) (hg : Op2 K r g) (ha : PE X a (tE K A wa)) (hb : PE X b (tE K A wb)) (hm : behindInMarks op b = false) : PE X (.Compare a [op] [b] pos) (tE K A (wO2 g wa wb)) := PE.imp (pe_cmpR ho ha hb hm) fun _ _ _ => run2 hg
theorem d_ix {r : R2} {g : Dt → Dt → Option Dt} {wa wb : WE S} (ho : IxR X r) (hg : Op2 K r g) (ha : PE X a (tE K A wa)) (hb : PE X b (tE K A wb)) (hs : PlainIx b) : PE X (.Subscript a b pos) (tE K A (wO2 g wa wb)) := PE.imp (pe_ix ho ha hb hs) fun _ _ _ => run2 hg
theorem d_un {op : UnaryOp} {r : V → Hp → VK → Prop} {g : Dt → Option Dt} {wa : WE S} (ho : UnR X (unaryOp op) r) (hg : Op1 K r g) (ha : PE X a (tE K A wa)) : PE X (.UnaryOp op a pos) (tE K A (wO1 g wa)) := PE.imp (pe_un ho ha) fun σ H Q ⟨F, H0, O, τ, st, q⟩ => by
  refine bindE st q fun H1 v O1 d τ1 st1 k1 x1 q1 => ?_
  obtain ⟨c, hc, q3⟩ := some_of q1
  exact hg _ v d c H1 Q (fun p np => st1.fresh np) x1 hc fun H' z s x => q3 H' z O1 (st1.grow s) (k1.trans (keepS s)) x
theorem runN {r : List V → Hp → VK → Prop} {g : List Dt → Option Dt} {wa : WA S} (hg : OpN K r g) {σ : L2.St} {H : Hp} {Q : VK} (h : tE K A (wON g wa) σ H Q) : tCB r (tAs K A wa) σ H Q := by
  obtain ⟨F, H0, O, τ, st, q⟩ := h
  refine bindA st q fun H1 v O1 d τ1 st1 k1 x1 q1 => ?_
  obtain ⟨c, hc, q3⟩ := some_of q1
  exact hg _ v d c H1 Q (fun p np => st1.fresh np) x1 hc fun H' z s x => q3 H' z O1 (st1.grow s) (k1.trans (keepS s)) x
theorem d_callB {id : String} {x : Str} {r : List V → Hp → VK → Prop} {g : List Dt → Option Dt} {wa : WA S} (hc : CallR X (.builtin id) r) (hg : OpN K r g) (hgl : Gl X x) (hm : X.mg x = none) (hv : bootBuiltins x = some (.builtin id)) (ha : PA X (e :: es) (tAs K A wa)) (hn : x ≠ "__name__" := by decide) (hdb : (x == ("__debug__" : Str)) = false := by decide)
    (he : starEach (e :: es) X.env = (false, eval e X.env) :: starEach es X.env := by rfl) (hpl : (backTo pos (starEach es X.env)).any (·.1) = false := by rfl) : PE X (.Call (.Name x p) (e :: es) [] pos) (tE K A (wON g wa)) :=
  PE.imp (pe_callB hc hgl hm hv ha hn hdb he hpl) fun _ _ _ => runN hg
theorem d_callTy {T : String} {x : Str} {r : List V → Hp → VK → Prop} {g : List Dt → Option Dt} {wa : WA S} (hc : CallR X (.type T) r) (hg : OpN K r g) (hgl : Gl X x) (hm : X.mg x = none) (hv : bootBuiltins x = some (.type T)) (ha : PA X (e :: es) (tAs K A wa)) (hn : x ≠ "__name__" := by decide) (hdb : (x == ("__debug__" : Str)) = false := by decide)
    (he : starEach (e :: es) X.env = (false, eval e X.env) :: starEach es X.env := by rfl) (hpl : (backTo pos (starEach es X.env)).any (·.1) = false := by rfl) : PE X (.Call (.Name x p) (e :: es) [] pos) (tE K A (wON g wa)) :=
  PE.imp (pe_callTy hc hgl hm hv ha hn hdb he hpl) fun _ _ _ => runN hg
/-! ### tests -/
theorem t_val {wa : WE S} (ha : PE X a (tE K A wa)) (he : ∀ whole, isTrue a X.env whole = (do let v ← whole; standAt a.pos; holding [v] (truthy v)) := by intro _; rfl) : PT X a (tTs K A (wTst wa)) := PT.imp (pt_val ha he) fun σ H Q ⟨F, H0, O, τ, st, q⟩ => by
  refine bindE st q fun H1 v O1 d τ1 st1 k1 x1 q1 => ?_
  cases x1 with
  | bl b => exact ⟨b, rfl, q1 H1 O1 st1 k1⟩
  | _ => exact q1.elim
theorem t_cmp {op : CmpOp} {r : R2} {g : Dt → Dt → Option Dt} {wa wb : WE S} (ho : OpR X (compareOp op) r) (hg : Op2 K r g) (ha : PE X a (tE K A wa)) (hb : PE X b (tE K A wb)) (hm : behindInMarks op b = false) : PT X (.Compare a [op] [b] pos) (tTs K A (wTst (wO2 g wa wb))) :=
  PT.imp (pt_cmpR ho ha hb hm) fun σ H Q ⟨F, H0, O, τ, st, q⟩ => by
    refine bindE st q fun H1 v O1 d τ1 st1 k1 x1 q1 => bindE st1 q1 fun H2 u O2 e τ2 st2 k2 x2 q2 => ?_
    obtain ⟨c, hc, q3⟩ := some_of q2
    refine hg _ v u d e c H2 _ (fun p np => st2.fresh np) (x1.same k2) x2 hc fun H' z s x => ?_
    cases x with
    | bl b => exact ⟨b, rfl, q3 H' O2 (st2.grow s) ((k1.trans k2).trans (keepS s))⟩
    | _ => exact q3.elim
theorem t_not {wa : WT S} (ha : PT X a (tTs K A wa)) : PT X (.UnaryOp .Not a pos) (tTs K A (wNotT wa)) := PT.imp (pt_not ha) fun σ H Q ⟨F, H0, O, τ, st, q⟩ => bindT st q fun H1 O1 d τ1 st1 k1 q1 => q1 H1 O1 st1 k1
end
end
end DL
/-! part DL4 -/
namespace DL
open PySem PySem.Spec PyProof.Rows L2 My
section
variable {S : Type} {X : Cx} {K : PySem.W.Frag} {A : Am S} {a b o e c : Expr} {es rest : List Expr} {pos p cpos apos : Pos}
theorem tw_and1 {wa : WT S} (ha : PT X a (tTs K A wa)) : PW X (.BoolOp .And [a] pos) (tTs K A wa) := pw_and1 ha
theorem tw_or1 {wa : WT S} (ha : PT X a (tTs K A wa)) : PW X (.BoolOp .Or [a] pos) (tTs K A wa) := pw_or1 ha
theorem PW.imp {e : Expr} {t t' : TT} (h : PW X e t) (i : ∀ σ H Q, t' σ H Q → t σ H Q) : PW X e t' := ⟨fun wh pins s σ H Q I q => h.run wh pins s σ H Q I (i σ H Q q)⟩
theorem tw_and {wa wb : WT S} (ha : PT X a (tTs K A wa)) (hb : PW X (.BoolOp .And (b :: rest) pos) (tTs K A wb)) : PW X (.BoolOp .And (a :: b :: rest) pos) (tTs K A (wAndT wa wb)) :=
  PW.imp (pw_and ha hb) fun σ H Q ⟨F, H0, O, τ, st, q⟩ => bindT st q fun H1 O1 d τ1 st1 k1 q1 => by
    revert q1
    cases d with
    | false =>
      intro q1
      exact q1 H1 O1 st1 k1
    | true =>
      intro q1
      exact bindT st1 q1 fun H2 O2 d τ2 st2 k2 q2 => q2 H2 O2 st2 (k1.trans k2)
theorem tw_or {wa wb : WT S} (ha : PT X a (tTs K A wa)) (hb : PW X (.BoolOp .Or (b :: rest) pos) (tTs K A wb)) : PW X (.BoolOp .Or (a :: b :: rest) pos) (tTs K A (wOrT wa wb)) :=
  PW.imp (pw_or ha hb) fun σ H Q ⟨F, H0, O, τ, st, q⟩ => bindT st q fun H1 O1 d τ1 st1 k1 q1 => by
    revert q1
    cases d with
    | true =>
      intro q1
      exact q1 H1 O1 st1 k1
    | false =>
      intro q1
      exact bindT st1 q1 fun H2 O2 d τ2 st2 k2 q2 => q2 H2 O2 st2 (k1.trans k2)
theorem d_not {wa : WE S} (ha : PE X a (tE K A wa)) : PE X (.UnaryOp .Not a pos) (tE K A (wNot wa)) := PE.imp (pe_not ha) fun σ H Q ⟨F, H0, O, τ, st, q⟩ => bindE st q fun H1 v O1 d τ1 st1 k1 x1 q1 => by
  cases x1 with
  | bl b => exact ⟨b, rfl, q1 H1 _ O1 st1 k1 (.bl _)⟩
  | _ => exact q1.elim
theorem d_one {op} {wa : WE S} (ha : PE X a (tE K A wa)) : PE X (.BoolOp op [a] pos) (tE K A wa) := pe_one ha
theorem d_and {wa wb : WE S} (ha : PE X a (tE K A wa)) (hb : PE X (.BoolOp .And (b :: rest) pos) (tE K A wb)) : PE X (.BoolOp .And (a :: b :: rest) pos) (tE K A (wAnd wa wb)) :=
  PE.imp (pe_and ha hb) fun σ H Q ⟨F, H0, O, τ, st, q⟩ => bindE st q fun H1 v O1 d τ1 st1 k1 x1 q1 => by
    cases x1 with
    | bl c =>
      refine ⟨c, rfl, ?_⟩
      cases c with
      | false => exact q1 H1 _ O1 st1 k1 (.bl _)
      | true => exact bindE st1 q1 fun H2 u O2 d τ2 st2 k2 x2 q2 => q2 H2 u O2 st2 (k1.trans k2) x2
    | _ => exact q1.elim
theorem d_or {wa wb : WE S} (ha : PE X a (tE K A wa)) (hb : PE X (.BoolOp .Or (b :: rest) pos) (tE K A wb)) : PE X (.BoolOp .Or (a :: b :: rest) pos) (tE K A (wOr wa wb)) :=
  PE.imp (pe_or ha hb) fun σ H Q ⟨F, H0, O, τ, st, q⟩ => bindE st q fun H1 v O1 d τ1 st1 k1 x1 q1 => by
    cases x1 with
    | bl c =>
      refine ⟨c, rfl, ?_⟩
      cases c with
      | true => exact q1 H1 _ O1 st1 k1 (.bl _)
      | false => exact bindE st1 q1 fun H2 u O2 d τ2 st2 k2 x2 q2 => q2 H2 u O2 st2 (k1.trans k2) x2
    | _ => exact q1.elim
theorem d_if {t : WT S} {wa wb : WE S} (hc : PT X c (tTs K A t)) (ha : PE X a (tE K A wa)) (hb : PE X b (tE K A wb)) : PE X (.IfExp c a b pos) (tE K A (wIf t wa wb)) :=
  PE.imp (pe_ifExp hc ha hb) fun σ H Q ⟨F, H0, O, τ, st, q⟩ => bindT st q fun H1 O1 d τ1 st1 k1 q1 => by
    cases d with
    | true => exact bindE st1 q1 fun H2 u O2 d τ2 st2 k2 x2 q2 => q2 H2 u O2 st2 (k1.trans k2) x2
    | false => exact bindE st1 q1 fun H2 u O2 d τ2 st2 k2 x2 q2 => q2 H2 u O2 st2 (k1.trans k2) x2
end
/-! ### single operations -/
def gIx : Dt → Dt → Option Dt
  | .lst ds, .int i => atI ds i
  | .tup ds, .int i => atI ds i
  | _, _ => none
theorem atI_rel {K : PySem.W.Frag} {H : Hp} {vs : List V} {ds : List Dt} {i : Int} {d : Dt} (x : DXs K H vs ds) (h : atI ds i = some d) : ∃ v, atI vs i = some v ∧ DX K H v d := by
  unfold atI at h ⊢
  rw [x.len]
  cases e : ixN ds.length i with
  | none => rw [e] at h; cases h
  | some j =>
    rw [e] at h
    obtain ⟨v, h1, h2⟩ := x.at_ (show ds[j]? = some d from h)
    exact ⟨v, h1, h2⟩
theorem DX.lstI {K : PySem.W.Frag} {H : Hp} {v : V} {ds : List Dt} (h : DX K H v (.lst ds)) : ∃ a vs, v = .ref a ∧ H a = some (.lst vs) ∧ vs.length ≤ 1000000 ∧ DXs K H vs ds := by
  cases h with
  | lst h l k => exact ⟨_, _, rfl, h, l, k⟩
theorem DX.tupI {K : PySem.W.Frag} {H : Hp} {v : V} {ds : List Dt} (h : DX K H v (.tup ds)) : ∃ a vs, v = .ref a ∧ SqT K H a vs ∧ vs.length ≤ 1000000 ∧ DXs K H vs ds := by
  cases h with
  | tup h l k => exact ⟨_, _, rfl, .inl (.inl h), l, k⟩
theorem DX.intI {K : PySem.W.Frag} {H : Hp} {v : V} {i : Int} (h : DX K H v (.int i)) : v = .int i := by cases h; rfl
theorem DX.strI {K : PySem.W.Frag} {H : Hp} {v : V} {i : Str} (h : DX K H v (.str i)) : v = .str i := by cases h; rfl
theorem DX.blI {K : PySem.W.Frag} {H : Hp} {v : V} {i : Bool} (h : DX K H v (.bl i)) : v = .bl i := by cases h; rfl
theorem hidL {K : PySem.W.Frag} {P : Addr → Prop} {H : Hp} {a : Addr} {vs : List V} (h : hidP P H a = some (.lst vs)) : SqL K H a vs := .inl (.inl (hidP_less _ _ h))
theorem hidT {K : PySem.W.Frag} {P : Addr → Prop} {H : Hp} {a : Addr} {vs : List V} (h : SqT K (hidP P H) a vs) : SqT K H a vs := Same.seqT hidP_less h
theorem o_ix {K : PySem.W.Frag} : Op2 K (rIx K) gIx := fun P x y d e c H Q nP hx hy h q => by
  cases d with
  | lst ds =>
    cases e with
    | int i =>
      obtain ⟨a, vs, rfl, h1, _, h3⟩ := hx.lstI
      obtain rfl := hy.intI
      obtain ⟨v, e1, e2⟩ := atI_rel h3 h
      exact .inl ⟨a, vs, i, v, rfl, rfl, hidL h1, e1, q H v (Same.refl H) e2⟩
    | _ => cases h
  | tup ds =>
    cases e with
    | int i =>
      obtain ⟨a, vs, rfl, h1, _, h3⟩ := hx.tupI
      obtain rfl := hy.intI
      obtain ⟨v, e1, e2⟩ := atI_rel h3 h
      exact .inr (.inl ⟨a, vs, i, v, rfl, rfl, hidT h1, e1, q H v (Same.refl H) e2⟩)
    | _ => cases h
  | _ => cases h
/-- equality of scalars of one kind, and of None and a scalar -/
def gEqS : Dt → Dt → Option Bool
  | .str a, .str b => some (decide (a = b))
  | .int a, .int b => some (decide (a = b))
  | .bl a, .bl b => some (decide (a = b))
  | .non, .non => some true
  | .non, .int _ => some false
  | .non, .str _ => some false
  | .int _, .non => some false
  | .str _, .non => some false
  | .int _, .str _ => some false
  | .str _, .int _ => some false
  | _, _ => none
def gEq (d e : Dt) : Option Dt := (gEqS d e).map .bl
def gNe (d e : Dt) : Option Dt := (gEqS d e).map fun b => .bl !b
theorem eqS_ok {K : PySem.W.Frag} {H : Hp} {x y : V} {d e : Dt} {b : Bool} (hx : DX K H x d) (hy : DX K H y e) (h : gEqS d e = some b) : scal x y = true ∧ decide (x = y) = b := by
  cases d <;> cases e <;> first
    | (cases h; done)
    | (cases hx; cases hy; cases h; exact ⟨rfl, by simp⟩)
theorem o_eq {K : PySem.W.Frag} : Op2 K rEq gEq := fun P x y d e c H Q nP hx hy h q => by
  obtain ⟨b, hb, rfl⟩ := Option.map_eq_some_iff.mp h
  obtain ⟨h1, h2⟩ := eqS_ok hx hy hb
  refine ⟨h1, ?_⟩
  rw [h2]
  exact q H _ (Same.refl H) (.bl b)
theorem o_ne {K : PySem.W.Frag} : Op2 K rNe gNe := fun P x y d e c H Q nP hx hy h q => by
  obtain ⟨b, hb, rfl⟩ := Option.map_eq_some_iff.mp h
  obtain ⟨h1, h2⟩ := eqS_ok hx hy hb
  refine ⟨h1, ?_⟩
  rw [h2]
  exact q H _ (Same.refl H) (.bl _)
/-- == of plain data -/
def gEqD (d e : Dt) : Option Dt := if (d.plain && e.plain && SeqAt.shaped d.pd && SeqAt.shaped e.pd) = true then some (.bl (PyData.eqv d.pd e.pd)) else none
def gNeD (d e : Dt) : Option Dt := if (d.plain && e.plain && SeqAt.shaped d.pd && SeqAt.shaped e.pd) = true then some (.bl !(PyData.eqv d.pd e.pd)) else none
theorem o_eqD {K : PySem.W.Frag} : Op2 K (rEqD K) gEqD := fun P x y d e c H Q nP hx hy h q => by
  unfold gEqD at h
  split at h
  · rename_i z
    simp only [Bool.and_eq_true] at z
    obtain ⟨⟨⟨z1, z2⟩, z3⟩, z4⟩ := z
    cases h
    exact ⟨d.pd, e.pd, (hx.same hidP_less).dp z1, (hy.same hidP_less).dp z2, z3, z4, q H _ (Same.refl H) (.bl _)⟩
  · cases h
theorem o_neD {K : PySem.W.Frag} : Op2 K (rNeD K) gNeD := fun P x y d e c H Q nP hx hy h q => by
  unfold gNeD at h
  split at h
  · rename_i z
    simp only [Bool.and_eq_true] at z
    obtain ⟨⟨⟨z1, z2⟩, z3⟩, z4⟩ := z
    cases h
    exact ⟨d.pd, e.pd, (hx.same hidP_less).dp z1, (hy.same hidP_less).dp z2, z3, z4, q H _ (Same.refl H) (.bl _)⟩
  · cases h
def gI (f : Int → Int → Dt) : Dt → Dt → Option Dt
  | .int i, .int j => some (f i j)
  | _, _ => none
theorem o_I {K : PySem.W.Frag} {f : Int → Int → V} {g : Int → Int → Dt} (hf : ∀ H i j, DX K H (f i j) (g i j)) : Op2 K (rI0 f) (gI g) := fun P x y d e c H Q nP hx hy h q => by
  cases d <;> cases e <;> first
    | (cases h; done)
    | (cases hx; cases hy; cases h; exact ⟨_, _, rfl, rfl, q H _ (Same.refl H) (hf _ _ _)⟩)
/-- x in a list or tuple of texts -/
def gInS (neg : Bool) : Dt → Dt → Option Dt
  | .str z, .lst ds => (strsD ds).map fun l => .bl (if neg then !l.contains z else l.contains z)
  | .str z, .tup ds => (strsD ds).map fun l => .bl (if neg then !l.contains z else l.contains z)
  | _, _ => none
where strsD : List Dt → Option (List Str)
  | [] => some []
  | .str s :: ds => (strsD ds).map (s :: ·)
  | _ :: _ => none
theorem strs_rel {K : PySem.W.Frag} {H : Hp} : ∀ {vs : List V} {ds : List Dt} {l : List Str}, DXs K H vs ds → gInS.strsD ds = some l → vs = l.map V.str
  | _, _, l, .nil, h => by
    cases h
    rfl
  | _, _, l, .cons (d := d) r k, h => by
    cases d with
    | str s =>
      obtain ⟨m, hm, rfl⟩ := Option.map_eq_some_iff.mp h
      rw [strs_rel k hm]
      cases r
      rfl
    | _ => cases h
theorem o_inS {K : PySem.W.Frag} (neg : Bool) : Op2 K (rIn K neg) (gInS neg) := fun P x y d e c H Q nP hx hy h q => by
  cases d with
  | str z =>
    obtain rfl := hx.strI
    cases e with
    | lst ds =>
      obtain ⟨a, vs, rfl, h1, _, h3⟩ := hy.lstI
      obtain ⟨l, hl, rfl⟩ := Option.map_eq_some_iff.mp h
      rw [strs_rel h3 hl] at h1
      refine ⟨a, _, rfl, .inl (hidL h1), rfl, My.flat_strs l, ?_⟩
      rw [inV_strs]
      exact q H _ (Same.refl H) (.bl _)
    | tup ds =>
      obtain ⟨a, vs, rfl, h1, _, h3⟩ := hy.tupI
      obtain ⟨l, hl, rfl⟩ := Option.map_eq_some_iff.mp h
      rw [strs_rel h3 hl] at h1
      refine ⟨a, _, rfl, .inr (hidT h1), rfl, My.flat_strs l, ?_⟩
      rw [inV_strs]
      exact q H _ (Same.refl H) (.bl _)
    | _ => cases h
  | _ => cases h
/-- list + list, tuple + tuple -/
def gCatL : Dt → Dt → Option Dt
  | .lst a, .lst b => if a.length + b.length ≤ 1000000 then some (.lst (a ++ b)) else none
  | _, _ => none
/-- len -/
def gLen : List Dt → Option Dt
  | [.lst a] => some (.int a.length)
  | [.tup a] => some (.int a.length)
  | _ => none
theorem DXs.one {K : PySem.W.Frag} {H : Hp} {vs : List V} {d : Dt} (h : DXs K H vs [d]) : ∃ v, vs = [v] ∧ DX K H v d := by
  cases h with
  | cons r k =>
    cases k
    exact ⟨_, rfl, r⟩
theorem o_len {K : PySem.W.Frag} : OpN K (fun xs H Q => ∃ p ys, xs = [.ref p] ∧ (SqL K H p ys ∨ SqT K H p ys) ∧ Q (.int ys.length) H) gLen := fun P xs ds c H Q nP hx h q => by
  match ds, h with
  | [.lst a], h =>
    obtain ⟨v, rfl, x⟩ := hx.one
    obtain ⟨p, vs, rfl, h1, _, h3⟩ := x.lstI
    cases h
    refine ⟨p, vs, rfl, .inl (hidL h1), ?_⟩
    rw [h3.len]
    exact q H _ (Same.refl H) (.int _)
  | [.tup a], h =>
    obtain ⟨v, rfl, x⟩ := hx.one
    obtain ⟨p, vs, rfl, h1, _, h3⟩ := x.tupI
    cases h
    refine ⟨p, vs, rfl, .inr (hidT h1), ?_⟩
    rw [h3.len]
    exact q H _ (Same.refl H) (.int _)
end DL
/-! part DL5 -/
namespace DL
open PySem PySem.Spec PyProof.Rows L2 My
/-- how a statement ends -/
inductive Rs where
  | nx | bk | ct | rt (d : Dt) | rl (c : Cn)
section
variable {S : Type}
structure WS (S : Type) where
  f : (En × S) → (Rs → En × S → Prop) → Prop
  mono : ∀ τ k k', (∀ r τ', k r τ' → k' r τ') → f τ k → f τ k'
/-- the end at the heap's level; kp: what stood where the statement began stands -/
def endD (K : PySem.W.Frag) (A : Am S) (F : Addr → Prop) (H0 : Hp) (D : Ends) (kp : (Nat → Addr) → En → Hp → Prop) : Rs → En × S → Prop
  | .nx, τ' => ∀ σ' H' O', Stt K A F H0 O' σ' H' τ' → kp O' τ'.1 H' → D.nx σ' H'
  | .bk, τ' => ∀ σ' H' O', Stt K A F H0 O' σ' H' τ' → kp O' τ'.1 H' → D.bk σ' H'
  | .ct, τ' => ∀ σ' H' O', Stt K A F H0 O' σ' H' τ' → kp O' τ'.1 H' → D.ct σ' H'
  | .rt d, τ' => ∀ σ' H' O' v, Stt K A F H0 O' σ' H' τ' → kp O' τ'.1 H' → DX K (hidP F H') v d → D.rt v H'
  | .rl c, τ' => ∀ σ' H' O' a o, Stt K A F H0 O' σ' H' τ' → kp O' τ'.1 H' → H0 a = none → H' a = some o → A.at_ τ'.2 (fun b => F b ∨ b = a) H' → CnX K (hidP (fun b => F b ∨ b = a) H') o c → D.rt (.ref a) H'
def tS (K : PySem.W.Frag) (A : Am S) (w : WS S) : TS := fun D σ H => ∃ F H0 O τ, Stt K A F H0 O σ H τ ∧ w.f τ (endD K A F H0 D fun O' ρ' H' => Keep F O τ.1 H O' ρ' H')
theorem hidn_F {F : Addr → Prop} {O : Nat → Addr} {ρ : En} {H : Hp} : Same (hidP (hidn F O ρ) H) (hidP F H) := hidP_same fun b o e _ n => ⟨fun h => n (.inl h), e⟩
/-! ### slots set -/
def putSl (τ : En × S) (i : Nat) (x : Sl) : En × S := (τ.1.set i x, τ.2)
theorem set_some {α : Type} {l : List α} {i j : Nat} {x y : α} (h : (l.set i x)[j]? = some y) : (i = j ∧ x = y) ∨ (i ≠ j ∧ l[j]? = some y) := by
  by_cases e : i = j
  · subst e
    rw [List.getElem?_set_self'] at h
    cases q : l[i]? with
    | none => rw [q] at h; cases h
    | some z =>
      rw [q] at h
      exact .inl ⟨rfl, Option.some.inj h⟩
  · rw [List.getElem?_set_ne e] at h
    exact .inr ⟨e, h⟩
section
variable {K : PySem.W.Frag} {A : Am S} {F : Addr → Prop} {H0 : Hp} {O : Nat → Addr} {σ : L2.St} {H : Hp} {τ : En × S}
theorem Stt.setKp (st : Stt K A F H0 O σ H τ) (i : Nat) (x : Sl) (hx : ∀ c, x ≠ .own c) : Kp (hidn F O τ.1) H (hidn F O (putSl τ i x).1) H := fun b o e n => ⟨fun h => n (by
  rcases h with h | ⟨j, ds, h, e⟩
  · exact .inl h
  · rcases set_some h with ⟨_, z⟩ | ⟨_, z⟩
    · exact absurd z (hx ds)
    · exact .inr ⟨j, ds, z, e⟩), e⟩
theorem Stt.setKeep (st : Stt K A F H0 O σ H τ) (i : Nat) (x : Sl) (hx : ∀ c, x ≠ .own c) : Same (hidP (hidn F O τ.1) H) (hidP (hidn F O (putSl τ i x).1) H) := (st.setKp i x hx).same
/-- a slot gets data -/
theorem Stt.setDat (st : Stt K A F H0 O σ H τ) {i : Nat} {v : V} {d : Dt} (hi : i < σ.length) (x : DX K (hidP (hidn F O τ.1) H) v d) : Stt K A F H0 O (σ.set i (some v)) H (putSl τ i (.dat d)) := by
  have kp := st.setKp i (.dat d) (fun ds z => nomatch z)
  have sh := kp.same
  refine ⟨A.move _ _ _ _ _ st.am kp fun _ _ e _ => e, st.am0, st.fin, st.fex, st.ev, fun j e h => ?_, fun j ds h => ?_, fun j k ds es h1 h2 e => ?_, ?_⟩
  · rcases set_some h with ⟨rfl, z⟩ | ⟨n, z⟩
    · cases z
      exact ⟨v, by rw [List.getElem?_set_self hi], x.same sh⟩
    · obtain ⟨u, h1, h2⟩ := st.dat j e z
      exact ⟨u, by rw [List.getElem?_set_ne n]; exact h1, h2.same sh⟩
  · rcases set_some h with ⟨_, z⟩ | ⟨n, z⟩
    · cases z
    · obtain ⟨vs, h1, h2, h3, h4⟩ := st.own j ds z
      exact ⟨vs, by rw [List.getElem?_set_ne n]; exact h1, h2, h3, h4.same sh⟩
  · rcases set_some h1 with ⟨_, z⟩ | ⟨n1, z1⟩
    · cases z
    · rcases set_some h2 with ⟨_, z⟩ | ⟨n2, z2⟩
      · cases z
      · exact st.inj j k ds es z1 z2 e
  · show (τ.1.set i _).length = (σ.set i _).length
    rw [List.length_set, List.length_set, st.len]
theorem Stt.new0 (st : Stt K A F H0 O σ H τ) {p : Addr} (np : H p = Option.none) : H0 p = Option.none := by
  cases e : H0 p with
  | none => rfl
  | some o =>
    by_cases t : A.tab p
    · obtain ⟨qs, z⟩ := A.hasT _ _ _ _ st.am t
      rw [np] at z
      cases z
    · by_cases f : A.foot p
      · obtain ⟨o', e', _⟩ := A.has _ _ _ _ st.am f
        rw [np] at e'
        cases e'
      · rw [st.ev p o e f t] at np
        cases np
/-- a slot gets a thing of one's own that stands at p, which nothing else sees -/
theorem Stt.ownAt (st : Stt K A F H0 O σ H τ) {i : Nat} {p : Addr} {o : HO} {c : Cn} (hi : i < σ.length) (np0 : H0 p = none) (nh : ¬ hidn F O τ.1 p) (hp : H p = some o) (am : A.at_ τ.2 (fun b => hidn F O τ.1 b ∨ b = p) H)
    (dat : ∀ (j : Nat) (d : Dt), τ.1[j]? = some (Sl.dat d) → ∃ v, σ[j]? = some (some v) ∧ DX K (hidP (fun b => hidn F O τ.1 b ∨ b = p) H) v d)
    (own : ∀ (j : Nat) (e : Cn), τ.1[j]? = some (Sl.own e) → ∃ u, σ[j]? = some (some (.ref (O j))) ∧ H0 (O j) = Option.none ∧ H (O j) = some u ∧ CnX K (hidP (fun b => hidn F O τ.1 b ∨ b = p) H) u e)
    (x : CnX K (hidP (fun b => hidn F O τ.1 b ∨ b = p) H) o c) :
    Stt K A F H0 (fun j => if j = i then p else O j) (σ.set i (some (.ref p))) H (putSl τ i (.own c)) ∧ Kp (fun b => hidn F O τ.1 b ∨ b = p) H (hidn F (fun j => if j = i then p else O j) (putSl τ i (.own c)).1) H := by
  have oi : ∀ j, j ≠ i → (if j = i then p else O j) = O j := fun j h => if_neg h
  have ii : (if i = i then p else O i) = p := if_pos rfl
  have kp : Kp (fun b => hidn F O τ.1 b ∨ b = p) H (hidn F (fun j => if j = i then p else O j) (putSl τ i (.own c)).1) H := fun b o e q => ⟨fun h => by
    rcases h with h | ⟨j, es, h, z⟩
    · exact q (.inl (.inl h))
    · rcases set_some h with ⟨rfl, _⟩ | ⟨ne, z1⟩
      · have z : (if i = i then p else O i) = b := z
        rw [ii] at z
        exact q (.inr z.symm)
      · have z : (if j = i then p else O j) = b := z
        rw [oi j (Ne.symm ne)] at z
        exact q (.inl (.inr ⟨j, es, z1, z⟩)), e⟩
  have sh := kp.same
  refine ⟨⟨A.move _ _ _ _ _ am kp fun _ _ e _ => e, st.am0, st.fin, st.fex, st.ev, fun j d h => ?_, fun j es h => ?_, fun j k es fs h1 h2 e => ?_, ?_⟩, kp⟩
  · rcases set_some h with ⟨_, z⟩ | ⟨ne, z1⟩
    · cases z
    · obtain ⟨v, g1, g2⟩ := dat j d z1
      exact ⟨v, by rw [List.getElem?_set_ne ne]; exact g1, g2.same sh⟩
  · rcases set_some h with ⟨rfl, z⟩ | ⟨ne, z1⟩
    · cases z
      refine ⟨o, ?_, ?_, ?_, x.same sh⟩
      · show (σ.set i (some (.ref p)))[i]? = some (some (.ref (if i = i then p else O i)))
        rw [ii, List.getElem?_set_self hi]
      · show H0 (if i = i then p else O i) = none
        rw [ii]
        exact np0
      · show H (if i = i then p else O i) = some o
        rw [ii]
        exact hp
    · obtain ⟨us, g1, g2, g3, g4⟩ := own j es z1
      refine ⟨us, ?_, ?_, ?_, g4.same sh⟩
      · show (σ.set i (some (.ref p)))[j]? = some (some (.ref (if j = i then p else O j)))
        rw [oi j (Ne.symm ne), List.getElem?_set_ne ne]
        exact g1
      · show H0 (if j = i then p else O j) = none
        rw [oi j (Ne.symm ne)]
        exact g2
      · show H (if j = i then p else O j) = some us
        rw [oi j (Ne.symm ne)]
        exact g3
  · have e : (if j = i then p else O j) = (if k = i then p else O k) := e
    rcases set_some h1 with ⟨rfl, _⟩ | ⟨n1, z1⟩
    · rcases set_some h2 with ⟨rfl, _⟩ | ⟨n2, z2⟩
      · rfl
      · rw [ii, oi k (Ne.symm n2)] at e
        exact absurd (.inr ⟨k, fs, z2, e.symm⟩) nh
    · rcases set_some h2 with ⟨rfl, _⟩ | ⟨n2, z2⟩
      · rw [ii, oi j (Ne.symm n1)] at e
        exact absurd (.inr ⟨j, es, z1, e⟩) nh
      · rw [oi j (Ne.symm n1), oi k (Ne.symm n2)] at e
        exact st.inj j k es fs z1 z2 e
  · show (τ.1.set i _).length = (σ.set i _).length
    rw [List.length_set, List.length_set, st.len]
/-- a thing laid just now -/
theorem Stt.laid (st : Stt K A F H0 O σ H τ) {p : Addr} {o : HO} (np : H p = none) : Kp (hidn F O τ.1) H (fun b => hidn F O τ.1 b ∨ b = p) (upd H p o) := fun b u e n => ⟨fun h => h.elim n (ne_of_none e np), same_new np o b u e⟩
/-- a slot gets a new thing of one's own -/
theorem Stt.setOwn' (st : Stt K A F H0 O σ H τ) {i : Nat} {p : Addr} {o : HO} {c : Cn} (hi : i < σ.length) (np : H p = none) (x : CnX K (hidP (hidn F O τ.1) H) o c) :
    Stt K A F H0 (fun j => if j = i then p else O j) (σ.set i (some (.ref p))) (upd H p o) (putSl τ i (.own c)) ∧ Keep F O τ.1 H (fun j => if j = i then p else O j) (putSl τ i (.own c)).1 (upd H p o) := by
  have kl := st.laid (o := o) np
  have s2 := same_new np o
  have sh := kl.same
  have st' := st.grow s2
  obtain ⟨s3, k3⟩ := st'.ownAt (c := c) hi (st.new0 np) (st.fresh np) upd_same (A.move _ _ _ _ _ st.am kl fun b u e _ => s2 b u e) (fun j d h => by
    obtain ⟨v, h1, h2⟩ := st.dat j d h
    exact ⟨v, h1, h2.same sh⟩) (fun j e h => by
    obtain ⟨u, h1, h2, h3, h4⟩ := st.own j e h
    exact ⟨u, h1, h2, s2 _ _ h3, h4.same sh⟩) (x.same sh)
  exact ⟨s3, sh.trans k3.same⟩
/-- the content of a thing of one's own is set -/
theorem Stt.putOwn (st : Stt K A F H0 O σ H τ) {i : Nat} {c0 c : Cn} {o : HO} (h : τ.1[i]? = some (.own c0)) (x : CnX K (hidP (hidn F O τ.1) H) o c) :
    Stt K A F H0 O σ (upd H (O i) o) (putSl τ i (.own c)) ∧ Keep F O τ.1 H O (putSl τ i (.own c)).1 (upd H (O i) o) := by
  obtain ⟨ow, g1, g2, g3, g4⟩ := st.own i c0 h
  have nf : ¬ A.foot (O i) := fun f => by
    obtain ⟨o, e1, _⟩ := st.fex _ (st.fin _ f)
    rw [g2] at e1
    cases e1
  have hO : hidn F O τ.1 (O i) := .inr ⟨i, c0, h, rfl⟩
  have il : i < τ.1.length := (List.getElem?_eq_some_iff.mp h).1
  have kp : Kp (hidn F O τ.1) H (hidn F O (putSl τ i (.own c)).1) (upd H (O i) o) := fun b u e n => by
    have ne : b ≠ O i := fun z => n (by rw [z]; exact hO)
    refine ⟨fun k => ?_, by rw [upd_ne ne]; exact e⟩
    rcases k with k | ⟨j, fs, k, z⟩
    · exact n (.inl k)
    · rcases set_some k with ⟨rfl, _⟩ | ⟨nj, z1⟩
      · exact ne z.symm
      · exact n (.inr ⟨j, fs, z1, z⟩)
  have sh := kp.same
  refine ⟨?_, sh⟩
  refine ⟨A.move _ _ _ _ _ st.am kp fun b u e f => by rw [upd_ne (fun z => nf (by rw [← z]; exact f))]; exact e, st.am0, st.fin, st.fex, fun b u e n f => ?_, fun j e k => ?_, fun j fs k => ?_, fun j k fs gs h1 h2 e => ?_, ?_⟩
  · rw [upd_ne (fun z => by rw [z, g2] at e; cases e)]
    exact st.ev b u e n f
  · rcases set_some k with ⟨_, z⟩ | ⟨n, z⟩
    · cases z
    · obtain ⟨u, h1, h2⟩ := st.dat j e z
      exact ⟨u, h1, h2.same sh⟩
  · rcases set_some k with ⟨rfl, z⟩ | ⟨n, z⟩
    · cases z
      exact ⟨o, g1, g2, upd_same, x.same sh⟩
    · obtain ⟨zs, h1, h2, h3, h4⟩ := st.own j fs z
      refine ⟨zs, h1, h2, ?_, h4.same sh⟩
      rw [upd_ne (fun y => n (st.inj j i fs c0 z h y).symm)]
      exact h3
  · have old : ∀ (m : Nat) (ys : Cn), (putSl τ i (.own c)).1[m]? = some (.own ys) → ∃ zs, τ.1[m]? = some (.own zs) := fun m ys k => by
      rcases set_some k with ⟨rfl, _⟩ | ⟨_, z⟩
      · exact ⟨c0, h⟩
      · exact ⟨ys, z⟩
    obtain ⟨z1, k1⟩ := old j fs h1
    obtain ⟨z2, k2⟩ := old k gs h2
    exact st.inj j k z1 z2 k1 k2 e
  · show (τ.1.set i _).length = _
    rw [List.length_set, st.len]
end
end
end DL
/-! part DL6 -/
namespace DL
open PySem PySem.Spec PyProof.Rows L2 My
section
variable {S : Type}
/-- what follows a statement that ends in the usual way -/
def seqK (k1 : En × S → Prop) (k : Rs → En × S → Prop) : Rs → En × S → Prop
  | .nx, τ => k1 τ
  | r, τ => k r τ
theorem seqK_mono {k1 k1' : En × S → Prop} {k k' : Rs → En × S → Prop} (m1 : ∀ τ, k1 τ → k1' τ) (m : ∀ r τ, k r τ → k' r τ) : ∀ r τ, seqK k1 k r τ → seqK k1' k' r τ
  | .nx, τ, h => m1 τ h
  | .bk, τ, h => m _ τ h
  | .ct, τ, h => m _ τ h
  | .rt _, τ, h => m _ τ h
  | .rl _, τ, h => m _ τ h
def wSeq (a b : WS S) : WS S := ⟨fun τ k => a.f τ (seqK (fun τ' => b.f τ' k) k), fun τ k k' m h => a.mono _ _ _ (seqK_mono (fun τ' h => b.mono _ _ _ m h) m) h⟩
def wNx : WS S := ⟨fun τ k => k .nx τ, fun _ _ _ m h => m _ _ h⟩
def wPut (i : Nat) (τ : En × S) (x : Sl) (k : Rs → En × S → Prop) : Prop := if i < τ.1.length then k .nx (putSl τ i x) else False
theorem wPut_mono {i : Nat} {τ : En × S} {x : Sl} {k k' : Rs → En × S → Prop} (m : ∀ r τ', k r τ' → k' r τ') (h : wPut i τ x k) : wPut i τ x k' := by
  unfold wPut at h ⊢
  split
  · rename_i c
    rw [if_pos c] at h
    exact m _ _ h
  · rename_i c
    rw [if_neg c] at h
    exact h
/-- x = e -/
def wSet (i : Nat) (e : WE S) : WS S := ⟨fun τ k => e.f τ fun d τ1 => wPut i τ1 (.dat d) k, fun τ k k' m h => e.mono _ _ _ (fun d τ1 h1 => wPut_mono m h1) h⟩
/-- x = [..], a list of one's own -/
def wSetOwn (i : Nat) (a : WA S) : WS S := ⟨fun τ k => a.f τ fun ds τ1 => ds.length ≤ 1000000 ∧ wPut i τ1 (.own (.lst ds)) k, fun τ k k' m h => a.mono _ _ _ (fun d τ1 h1 => ⟨h1.1, wPut_mono m h1.2⟩) h⟩
/-- the own list at i -/
def ownK (τ : En × S) (i : Nat) (k : List Dt → Prop) : Prop := match τ.1[i]? with
  | some (.own (.lst ds)) => k ds
  | _ => False
theorem ownK_mono {τ : En × S} {i : Nat} {k k' : List Dt → Prop} (m : ∀ ds, k ds → k' ds) (h : ownK τ i k) : ownK τ i k' := by
  unfold ownK at h ⊢
  split
  · rename_i ds e
    rw [e] at h
    exact m _ h
  · rename_i n
    split at h
    · rename_i ds e
      exact n ds e
    · exact h
theorem ownK_some {τ : En × S} {i : Nat} {k : List Dt → Prop} (h : ownK τ i k) : ∃ ds, τ.1[i]? = some (.own (.lst ds)) ∧ k ds := by
  unfold ownK at h
  split at h
  · rename_i ds e
    exact ⟨ds, e, h⟩
  · exact h.elim
/-- x.append(e) -/
def wApp (i : Nat) (e : WE S) : WS S := ⟨fun τ k => ownK τ i fun _ => e.f τ fun d τ1 => ownK τ1 i fun ds => ds.length < 1000000 ∧ k .nx (putSl τ1 i (.own (.lst (ds ++ [d])))),
  fun τ k k' m h => ownK_mono (fun _ h => e.mono _ _ _ (fun d τ1 h1 => ownK_mono (fun ds h2 => ⟨h2.1, m _ _ h2.2⟩) h1) h) h⟩
/-- x.extend(e), e a list -/
def wExt (i : Nat) (e : WE S) : WS S := ⟨fun τ k => ownK τ i fun _ => e.f τ fun d τ1 => ownK τ1 i fun ds => match d with | .lst es => ds.length + es.length ≤ 1000000 ∧ k .nx (putSl τ1 i (.own (.lst (ds ++ es)))) | _ => False,
  fun τ k k' m h => ownK_mono (fun _ h => e.mono _ _ _ (fun d τ1 h1 => ownK_mono (fun ds h2 => by
    revert h2
    split
    · exact fun h2 => ⟨h2.1, m _ _ h2.2⟩
    · exact id) h1) h) h⟩
/-- x.pop() -/
def wPop (i : Nat) : WE S := ⟨fun τ k => ownK τ i fun ds => optK ds.getLast? fun d => k d (putSl τ i (.own (.lst ds.dropLast))), fun τ k k' m h => ownK_mono (fun ds h => optK_mono (fun c h => m _ _ h) h) h⟩
/-- while x: an own list's truth -/
def wTru (i : Nat) : WT S := ⟨fun τ k => ownK τ i fun ds => k (!ds.isEmpty) τ, fun τ k k' m h => ownK_mono (fun ds h => m _ _ h) h⟩
def wIfS (t : WT S) (a b : WS S) : WS S := ⟨fun τ k => t.f τ fun c τ1 => if c = true then a.f τ1 k else b.f τ1 k, fun τ k k' m h => t.mono _ _ _ (fun c τ1 h1 => by
  revert h1
  split
  · exact a.mono _ _ _ m
  · exact b.mono _ _ _ m) h⟩
def wRet (e : WE S) : WS S := ⟨fun τ k => e.f τ fun d τ1 => k (.rt d) τ1, fun τ k k' m h => e.mono _ _ _ (fun d τ1 h1 => m _ _ h1) h⟩
def wRetOwn (i : Nat) : WS S := ⟨fun τ k => ownK τ i fun ds => k (.rl (.lst ds)) τ, fun τ k k' m h => ownK_mono (fun ds h => m _ _ h) h⟩
def wRetN : WS S := ⟨fun τ k => k (.rt .non) τ, fun τ k k' m h => m _ _ h⟩
def wExp (e : WE S) : WS S := ⟨fun τ k => e.f τ fun _ τ1 => k .nx τ1, fun τ k k' m h => e.mono _ _ _ (fun d τ1 h1 => m _ _ h1) h⟩
def wBk : WS S := ⟨fun τ k => k .bk τ, fun _ _ _ m h => m _ _ h⟩
def wCt : WS S := ⟨fun τ k => k .ct τ, fun _ _ _ m h => m _ _ h⟩
/-- a list of one's own stands still from here on -/
def wFrz (i : Nat) (w : WS S) : WS S := ⟨fun τ k => ownK τ i fun ds => w.f (putSl τ i (.dat (.lst ds))) k, fun τ k k' m h => ownK_mono (fun ds h => w.mono _ _ _ m h) h⟩
section
variable {X : Cx} {K : PySem.W.Frag} {A : Am S} {st : Stmt} {rest : List Stmt} {e : Expr} {es : List Expr} {pos p : Pos}
theorem endD_imp {F : Addr → Prop} {H0 : Hp} {D D' : Ends} {kp kp' : (Nat → Addr) → En → Hp → Prop} (hk : ∀ O ρ H, kp' O ρ H → kp O ρ H) (h1 : ∀ σ H O τ, Stt K A F H0 O σ H τ → kp' O τ.1 H → D.nx σ H → D'.nx σ H) (h2 : D.bk = D'.bk) (h3 : D.ct = D'.ct) (h4 : D.rt = D'.rt) : ∀ r τ, endD K A F H0 D kp r τ → endD K A F H0 D' kp' r τ
  | .nx, τ, h => fun σ' H' O' s k => h1 σ' H' O' τ s k (h σ' H' O' s (hk _ _ _ k))
  | .bk, τ, h => fun σ' H' O' s k => by rw [← h2]; exact h σ' H' O' s (hk _ _ _ k)
  | .ct, τ, h => fun σ' H' O' s k => by rw [← h3]; exact h σ' H' O' s (hk _ _ _ k)
  | .rt d, τ, h => fun σ' H' O' v s k x => by rw [← h4]; exact h σ' H' O' v s (hk _ _ _ k) x
  | .rl c, τ, h => fun σ' H' O' a o s k n e l x => by rw [← h4]; exact h σ' H' O' a o s (hk _ _ _ k) n e l x
theorem s_nil : PSs X [] (tS K A (wNx : WS S)) := PSs.imp pss_nil fun D σ H ⟨F, H0, O, τ, st, q⟩ => q σ H O st (Same.refl _)
theorem s_cons {a b : WS S} (ha : PS X st (tS K A a)) (hb : PSs X rest (tS K A b)) : PSs X (st :: rest) (tS K A (wSeq a b)) := PSs.imp (pss_cons ha hb) fun D σ H ⟨F, H0, O, τ, s0, q⟩ => by
  refine ⟨F, H0, O, τ, s0, a.mono _ _ _ (fun r τ' h => ?_) q⟩
  cases r with
  | nx => exact fun σ' H' O' s1 k1 => ⟨F, H0, O', τ', s1, b.mono _ _ _ (endD_imp (fun O ρ H k => k1.trans k) (fun _ _ _ _ _ _ h => h) rfl rfl rfl) h⟩
  | bk => exact h
  | ct => exact h
  | rt d => exact h
  | rl ds => exact h
theorem s_one {a : WS S} (ha : PS X st (tS K A a)) : PSs X [st] (tS K A a) := PSs.imp (pss_one ha) fun D σ H h => h
/-- x = e -/
theorem s_set {i : Nat} {x : Str} {w : WE S} {pos' : Pos} (nd : X.N.Nodup) (hi : X.N[i]? = some x) (hx : Loc X.env.scope x) (he : PE X e (tE K A w)) (hf : X.fn x = true ∨ X.env.scope.names.lookup x = some .local := by first | exact .inl rfl | exact .inr rfl | assumption)
    (hs : swapsWithSole [.Name x pos'] e pos.line X.env = pure false := by rfl) (hw : swappedStores [.Name x pos'] e X.env = pure none := by rfl) (h1 : (assignEach [.Name x pos'] X.env).map (·.2) = [assign (.Name x pos') X.env] := by rfl) : PS X (.Assign [.Name x pos'] e pos) (tS K A (wSet i w)) :=
  PS.imp (ps_asg he (pg_name nd hi hx hf) hs hw h1) fun D σ H ⟨F, H0, O, τ, s0, q⟩ => bindE s0 q fun H1 v O1 d τ1 s1 k1 x1 q1 => by
    unfold wPut at q1
    split at q1
    · rename_i c
      exact q1 _ H1 O1 (s1.setDat (by rw [← s1.len]; exact c) x1) (k1.trans (s1.setKeep i (.dat d) fun ds z => nomatch z))
    · exact q1.elim
/-- x = [..] -/
theorem s_setOwn {i : Nat} {x : Str} {w : WA S} {pos' p2 : Pos} (nd : X.N.Nodup) (hi : X.N[i]? = some x) (hx : Loc X.env.scope x) (he : PA X es (tAs K A w)) (hf : X.fn x = true ∨ X.env.scope.names.lookup x = some .local := by first | exact .inl rfl | exact .inr rfl | assumption)
    (hs : swapsWithSole [.Name x pos'] (.List es p2) pos.line X.env = pure false := by rfl) (hw : swappedStores [.Name x pos'] (.List es p2) X.env = pure none := by rfl) (h1 : (assignEach [.Name x pos'] X.env).map (·.2) = [assign (.Name x pos') X.env] := by rfl) : PS X (.Assign [.Name x pos'] (.List es p2) pos) (tS K A (wSetOwn i w)) :=
  PS.imp (ps_asg (pe_lst he) (pg_name nd hi hx hf) hs hw h1) fun D σ H ⟨F, H0, O, τ, s0, q⟩ => bindA s0 q fun H1 vs O1 ds τ1 s1 k1 x1 ⟨l, q1⟩ => by
    have lv : vs.length ≤ 1000000 := by rw [x1.len]; exact l
    refine ⟨mil lv, fun p np => ?_⟩
    unfold wPut at q1
    split at q1
    · rename_i c
      have c' : i < σ.length := by rw [← s1.len]; exact c
      obtain ⟨s2, k2⟩ := s1.setOwn' c' np (.lst lv x1)
      exact q1 _ _ _ s2 (k1.trans k2)
    · exact q1.elim
end
end
end DL
/-! part DL7 -/
namespace DL
open PySem PySem.Spec PyProof.Rows L2 My
section
variable {S : Type} {X : Cx} {K : PySem.W.Frag} {A : Am S} {st : Stmt} {rest : List Stmt} {e o c : Expr} {es : List Expr} {pos p cpos apos : Pos}
section
variable {F : Addr → Prop} {H0 : Hp} {O : Nat → Addr} {σ : L2.St} {H : Hp} {τ : En × S}
theorem Stt.sameO {O' : Nat → Addr} {H' : Hp} {τ' : En × S} (s : Stt K A F H0 O σ H τ) (s' : Stt K A F H0 O' σ H' τ') {i : Nat} {c e : Cn} (h : τ.1[i]? = some (.own c)) (h' : τ'.1[i]? = some (.own e)) : O' i = O i := by
  obtain ⟨_, h1, _⟩ := s.own i c h
  obtain ⟨_, h2, _⟩ := s'.own i e h'
  rw [h1] at h2
  exact (V.ref.inj (Option.some.inj (Option.some.inj h2))).symm
/-- a thing of one's own is taken for data -/
theorem Stt.frz (s : Stt K A F H0 O σ H τ) {i : Nat} {c : Cn} (h : τ.1[i]? = some (.own c)) : Stt K A F H0 O σ H (putSl τ i (.dat c.dat)) ∧ Keep F O τ.1 H O (putSl τ i (.dat c.dat)).1 H := by
  have kp := s.setKp i (.dat c.dat) (fun ds z => nomatch z)
  have sh := kp.same
  obtain ⟨ow, g1, g2, g3, g4⟩ := s.own i c h
  have il : i < τ.1.length := (List.getElem?_eq_some_iff.mp h).1
  have nh : ¬ hidn F O (putSl τ i (.dat c.dat)).1 (O i) := fun k => by
    rcases k with k | ⟨j, fs, k, z⟩
    · obtain ⟨o, e1, _⟩ := s.fex _ k
      rw [g2] at e1
      cases e1
    · rcases set_some k with ⟨_, y⟩ | ⟨n, y⟩
      · cases y
      · exact n (s.inj j i fs c y h z).symm
  refine ⟨⟨A.move _ _ _ _ _ s.am kp fun _ _ e _ => e, s.am0, s.fin, s.fex, s.ev, fun j e k => ?_, fun j fs k => ?_, fun j k fs gs h1 h2 e => ?_, ?_⟩, sh⟩
  · rcases set_some k with ⟨rfl, z⟩ | ⟨n, z⟩
    · cases z
      exact ⟨_, g1, (g4.same sh).data (hidP_mk nh g3 g4.hd.ntb)⟩
    · obtain ⟨u, h1, h2⟩ := s.dat j e z
      exact ⟨u, h1, h2.same sh⟩
  · rcases set_some k with ⟨_, z⟩ | ⟨n, z⟩
    · cases z
    · obtain ⟨zs, h1, h2, h3, h4⟩ := s.own j fs z
      exact ⟨zs, h1, h2, h3, h4.same sh⟩
  · rcases set_some h1 with ⟨_, z⟩ | ⟨_, z1⟩
    · cases z
    · rcases set_some h2 with ⟨_, z⟩ | ⟨_, z2⟩
      · cases z
      · exact s.inj j k fs gs z1 z2 e
  · show (τ.1.set i _).length = _
    rw [List.length_set, s.len]
end
theorem s_app {i : Nat} {w : WE S} (hv : PE X o (tVar i)) (ha : PE X e (tE K A w)) (hK : X.K = K := by rfl) (hbase : attributeBase o "append" X.env (eval o X.env) = eval o X.env := by rfl)
    (hfew : ((backTo cpos (starEach (e :: []) X.env)).all (fun x => !x.1) && (backToKw cpos (keywordEach [] X.env)).all (fun x => x.1.isSome) && decide ((e :: []).length + ([] : List Keyword).length + (if ([] : List Keyword).isEmpty then 0 else 1) < 30)) = true := by rfl)
    (hline : (apos.endLine == cpos.line) = true := by rfl) (hs : starEach (e :: []) X.env = (false, eval e X.env) :: starEach [] X.env := by rfl) (hplain : (backTo cpos (starEach [] X.env)).any (·.1) = false := by rfl) (hsw : swapsWith (.Call (.Attribute o "append" apos) [e] [] cpos) none pos.line X.env = pure false := by rfl) :
    PS X (.Expr (.Call (.Attribute o "append" apos) [e] [] cpos) pos) (tS K A (wApp i w)) :=
  PS.imp (ps_expr (pe_bm PySem.F.plainAttrs_list PySem.F.slot_list_append PySem.F.type_list_append mt_append hv (pa_cons ha pa_nil hs) hbase hfew hline hs hplain) hsw) fun D σ H ⟨F, H0, O, τ, s0, q⟩ => by
    obtain ⟨ds0, h0, q⟩ := ownK_some q
    obtain ⟨vs0, g1, g2, g3, g4, g5⟩ := s0.ownL h0
    refine ⟨_, g1, .inl ⟨rfl, _, .inl (.inl g3)⟩, bindE s0 q fun H1 v O1 d τ1 s1 k1 x1 q1 => ?_⟩
    obtain ⟨ds, h1, l, q1⟩ := ownK_some q1
    obtain ⟨vs, f1, f2, f3, f4, f5⟩ := s1.ownL h1
    have eO := s0.sameO s1 h0 h1
    have lv : vs.length = ds.length := f5.len
    rw [eO] at f3
    refine ⟨O i, vs, v, rfl, rfl, f3, by unfold sizeLine; omega, ?_⟩
    obtain ⟨s2, k2⟩ := s1.putOwn (o := .lst (vs ++ [v])) (c := .lst (ds ++ [d])) h1 (.lst (by rw [List.length_append, List.length_singleton]; omega) (f5.append (.cons x1 .nil)))
    rw [eO] at s2 k2
    exact q1 _ _ _ s2 (k1.trans k2)
theorem s_ext {i : Nat} {w : WE S} (hv : PE X o (tVar i)) (ha : PE X e (tE K A w)) (hK : X.K = K := by rfl) (hbase : attributeBase o "extend" X.env (eval o X.env) = eval o X.env := by rfl)
    (hfew : ((backTo cpos (starEach (e :: []) X.env)).all (fun x => !x.1) && (backToKw cpos (keywordEach [] X.env)).all (fun x => x.1.isSome) && decide ((e :: []).length + ([] : List Keyword).length + (if ([] : List Keyword).isEmpty then 0 else 1) < 30)) = true := by rfl)
    (hline : (apos.endLine == cpos.line) = true := by rfl) (hs : starEach (e :: []) X.env = (false, eval e X.env) :: starEach [] X.env := by rfl) (hplain : (backTo cpos (starEach [] X.env)).any (·.1) = false := by rfl) (hsw : swapsWith (.Call (.Attribute o "extend" apos) [e] [] cpos) none pos.line X.env = pure false := by rfl) :
    PS X (.Expr (.Call (.Attribute o "extend" apos) [e] [] cpos) pos) (tS K A (wExt i w)) :=
  PS.imp (ps_expr (pe_bm PySem.F.plainAttrs_list PySem.F.slot_list_extend PySem.F.type_list_extend mt_extend hv (pa_cons ha pa_nil hs) hbase hfew hline hs hplain) hsw) fun D σ H ⟨F, H0, O, τ, s0, q⟩ => by
    obtain ⟨ds0, h0, q⟩ := ownK_some q
    obtain ⟨vs0, g1, g2, g3, g4, g5⟩ := s0.ownL h0
    refine ⟨_, g1, .inl ⟨rfl, _, .inl (.inl g3)⟩, bindE s0 q fun H1 v O1 d τ1 s1 k1 x1 q1 => ?_⟩
    obtain ⟨ds, h1, q1⟩ := ownK_some q1
    obtain ⟨vs, f1, f2, f3, f4, f5⟩ := s1.ownL h1
    have eO := s0.sameO s1 h0 h1
    have lv : vs.length = ds.length := f5.len
    rw [eO] at f3
    cases d with
    | lst gs =>
      obtain ⟨l, q1⟩ := q1
      obtain ⟨b, us, rfl, e1, _, e3⟩ := x1.lstI
      have lu : us.length = gs.length := e3.len
      refine ⟨O i, b, vs, us, rfl, rfl, f3, hidP_less _ _ e1, by unfold sizeLine; omega, ?_⟩
      obtain ⟨s2, k2⟩ := s1.putOwn (o := .lst (vs ++ us)) (c := .lst (ds ++ gs)) h1 (.lst (by rw [List.length_append]; omega) (f5.append e3))
      rw [eO] at s2 k2
      exact q1 _ _ _ s2 (k1.trans k2)
    | _ => exact q1.elim
theorem DXs.last {K : PySem.W.Frag} {H : Hp} {vs : List V} {ds : List Dt} {d : Dt} (x : DXs K H vs ds) (h : ds.getLast? = some d) : ∃ v, vs[vs.length - 1]? = some v ∧ DX K H v d := by
  rw [List.getLast?_eq_getElem?] at h
  rw [x.len]
  exact x.at_ h
theorem DXs.dropLast {K : PySem.W.Frag} {H : Hp} {vs : List V} {ds : List Dt} (x : DXs K H vs ds) : DXs K H vs.dropLast ds.dropLast := by
  rw [List.dropLast_eq_take, List.dropLast_eq_take, x.len]
  exact x.take _
theorem d_pop {i : Nat} (hv : PE X o (tVar i)) (hK : X.K = K := by rfl) (hbase : attributeBase o "pop" X.env (eval o X.env) = eval o X.env := by rfl) (hline : (apos.endLine == cpos.line) = true := by rfl) : PE X (.Call (.Attribute o "pop" apos) [] [] cpos) (tE K A (wPop i : WE S)) :=
  PE.imp (pe_bm0 PySem.F.plainAttrs_list PySem.F.slot_list_pop PySem.F.type_list_pop mt_pop hv hbase hline) fun σ H Q ⟨F, H0, O, τ, s0, q⟩ => by
    obtain ⟨ds, h0, q⟩ := ownK_some q
    obtain ⟨d, hd, q⟩ := some_of q
    obtain ⟨vs, g1, g2, g3, g4, g5⟩ := s0.ownL h0
    obtain ⟨v, hv, xv⟩ := g5.last hd
    have lv := List.length_dropLast (xs := vs)
    obtain ⟨s2, k2⟩ := s0.putOwn (o := .lst vs.dropLast) (c := .lst ds.dropLast) h0 (.lst (by omega) g5.dropLast)
    exact ⟨_, g1, .inl ⟨rfl, _, .inl (.inl g3)⟩, O i, vs, v, rfl, rfl, g3, hv, q _ v O s2 k2 (xv.same k2)⟩
theorem t_tru {i : Nat} (hv : PE X e (tVar i)) (hK : X.K = K := by rfl) (he : ∀ whole, isTrue e X.env whole = (do let v ← whole; standAt e.pos; holding [v] (truthy v)) := by intro _; rfl) : PT X e (tTs K A (wTru i : WT S)) :=
  PT.imp (pt_truth hv he) fun σ H Q ⟨F, H0, O, τ, s0, q⟩ => by
    obtain ⟨ds, h0, q⟩ := ownK_some q
    obtain ⟨vs, g1, g2, g3, g4, g5⟩ := s0.ownL h0
    refine ⟨_, g1, _, .inl ⟨vs, .inl (.inl g3), rfl⟩, ?_⟩
    have : vs.isEmpty = ds.isEmpty := by
      have := g5.len
      cases vs <;> cases ds <;> simp_all
    rw [this]
    exact q H O s0 (Same.refl _)
theorem s_if {t : WT S} {a b : WS S} {sa sb : List Stmt} (hc : PT X c (tTs K A t)) (ha : PSs X sa (tS K A a)) (hb : PSs X sb (tS K A b)) : PS X (.If c sa sb pos) (tS K A (wIfS t a b)) :=
  PS.imp (ps_if hc ha hb) fun D σ H ⟨F, H0, O, τ, s0, q⟩ => bindT s0 q fun H1 O1 d τ1 s1 k1 q1 => by
    cases d with
    | true => exact ⟨F, H0, O1, τ1, s1, a.mono _ _ _ (endD_imp (fun O ρ H k => k1.trans k) (fun _ _ _ _ _ _ h => h) rfl rfl rfl) q1⟩
    | false => exact ⟨F, H0, O1, τ1, s1, b.mono _ _ _ (endD_imp (fun O ρ H k => k1.trans k) (fun _ _ _ _ _ _ h => h) rfl rfl rfl) q1⟩
theorem s_ret {w : WE S} (he : PE X e (tE K A w)) : PS X (.Return (some e) pos) (tS K A (wRet w)) := PS.imp (ps_ret he) fun D σ H ⟨F, H0, O, τ, s0, q⟩ => bindE s0 q fun H1 v O1 d τ1 s1 k1 x1 q1 => q1 σ H1 O1 v s1 k1 (x1.same hidn_F)
theorem s_retOwn {i : Nat} (he : PE X e (tVar i)) : PS X (.Return (some e) pos) (tS K A (wRetOwn i : WS S)) := PS.imp (ps_ret he) fun D σ H ⟨F, H0, O, τ, s0, q⟩ => by
  obtain ⟨ds, h0, q⟩ := ownK_some q
  obtain ⟨vs, g1, g2, g3, g4, g5⟩ := s0.ownL h0
  have kp : ∀ {c : Cn}, τ.1[i]? = some (.own c) → Kp (hidn F O τ.1) H (fun b => F b ∨ b = O i) H := fun h0 b o e n => ⟨fun h => n (h.elim .inl fun h => .inr ⟨i, _, h0, h.symm⟩), e⟩
  exact ⟨_, g1, q σ H O (O i) _ s0 (Same.refl _) g2 g3 (A.move _ _ _ _ _ s0.am (kp h0) fun _ _ e _ => e) (.lst g4 (g5.same (kp h0).same))⟩
theorem s_retN : PS X (.Return none pos) (tS K A (wRetN : WS S)) := PS.imp ps_retN fun D σ H ⟨F, H0, O, τ, s0, q⟩ => q σ H O .non s0 (Same.refl _) .non
theorem s_exp {w : WE S} (he : PE X e (tE K A w)) (hs : swapsWith e none pos.line X.env = pure false := by rfl) : PS X (.Expr e pos) (tS K A (wExp w)) := PS.imp (ps_expr he hs) fun D σ H ⟨F, H0, O, τ, s0, q⟩ => bindE s0 q fun H1 v O1 d τ1 s1 k1 x1 q1 => q1 σ H1 O1 s1 k1
theorem s_bk : PS X (.Break pos) (tS K A (wBk : WS S)) := PS.imp ps_break fun D σ H ⟨F, H0, O, τ, s0, q⟩ => q σ H O s0 (Same.refl _)
theorem s_ct : PS X (.Continue pos) (tS K A (wCt : WS S)) := PS.imp ps_continue fun D σ H ⟨F, H0, O, τ, s0, q⟩ => q σ H O s0 (Same.refl _)
theorem s_pass : PS X (.Pass pos) (tS K A (wNx : WS S)) := PS.imp ps_pass fun D σ H ⟨F, H0, O, τ, s0, q⟩ => q σ H O s0 (Same.refl _)
theorem s_frz {i : Nat} {w : WS S} {ss : List Stmt} (h : PSs X ss (tS K A w)) : PSs X ss (tS K A (wFrz i w)) := PSs.imp h fun D σ H ⟨F, H0, O, τ, s0, q⟩ => by
  obtain ⟨ds, h0, q⟩ := ownK_some q
  obtain ⟨s1, k1⟩ := s0.frz h0
  exact ⟨F, H0, O, _, s1, w.mono _ _ _ (endD_imp (fun O ρ H k => k1.trans k) (fun _ _ _ _ _ _ h => h) rfl rfl rfl) q⟩
/-! ### while -/
def whN (t : WT S) (b : WS S) : Nat → (En × S) → (Rs → En × S → Prop) → Prop
  | 0, _, _ => False
  | n + 1, τ, k => t.f τ fun c τ1 => if c = true then b.f τ1 fun r τ2 => match r with
    | .nx => whN t b n τ2 k
    | .ct => whN t b n τ2 k
    | .bk => k .nx τ2
    | r => k r τ2
    else k .nx τ1
theorem whN_mono {t : WT S} {b : WS S} : ∀ {n : Nat} {τ : En × S} {k k' : Rs → En × S → Prop}, (∀ r τ', k r τ' → k' r τ') → whN t b n τ k → whN t b n τ k'
  | 0, _, _, _, _, h => h
  | n + 1, τ, k, k', m, h => t.mono _ _ _ (fun c τ1 h1 => by
    revert h1
    split
    · intro h1
      refine b.mono _ _ _ (fun r τ2 h2 => ?_) h1
      cases r with
      | nx => exact whN_mono m h2
      | ct => exact whN_mono m h2
      | bk => exact m _ _ h2
      | rt d => exact m _ _ h2
      | rl ds => exact m _ _ h2
    · exact m _ _) h
def wWh (t : WT S) (b : WS S) : WS S := ⟨fun τ k => ∃ n, whN t b n τ k, fun τ k k' m ⟨n, h⟩ => ⟨n, whN_mono m h⟩⟩
theorem s_while {t : WT S} {b : WS S} {body : List Stmt} (hp : PassesOwn (model X.prog X.w) X.A X.env X.xe) (hc : PT X c (tTs K A t)) (hb : PSs X body (tS K A b)) : PS X (.While c body [] pos) (tS K A (wWh t b)) :=
  PS.imp (ps_while hp hc hb) fun D σ H ⟨F, H0, O, τ, s0, n, q⟩ => by
    refine ⟨fun m σ' H' => ∃ O' τ', Stt K A F H0 O' σ' H' τ' ∧ Keep F O τ.1 H O' τ'.1 H' ∧ whN t b m τ' (endD K A F H0 D fun O' ρ' H' => Keep F O τ.1 H O' ρ' H'), ⟨n, O, τ, s0, Same.refl _, q⟩, ?_⟩
    rintro m σ' H' ⟨O', τ', s1, k1, q1⟩
    cases m with
    | zero => exact q1.elim
    | succ m =>
      refine bindT s1 q1 fun H2 O2 d τ2 s2 k2 q2 => ?_
      cases d with
      | false => exact q2 σ' H2 O2 s2 (k1.trans k2)
      | true =>
        refine ⟨fun σ3 H3 => ∃ O3 τ3, Stt K A F H0 O3 σ3 H3 τ3 ∧ Keep F O τ.1 H O3 τ3.1 H3 ∧ whN t b m τ3 (endD K A F H0 D fun O' ρ' H' => Keep F O τ.1 H O' ρ' H'), fun σ3 H3 h => ⟨m, Nat.lt_succ_self m, h⟩, F, H0, O2, τ2, s2, b.mono _ _ _ (fun r τ3 h => ?_) q2⟩
        have k12 := k1.trans k2
        cases r with
        | nx => exact fun σ3 H3 O3 s3 k3 => ⟨O3, τ3, s3, k12.trans k3, h⟩
        | ct => exact fun σ3 H3 O3 s3 k3 => ⟨O3, τ3, s3, k12.trans k3, h⟩
        | bk => exact fun σ3 H3 O3 s3 k3 => h σ3 H3 O3 s3 (k12.trans k3)
        | rt d => exact fun σ3 H3 O3 v s3 k3 x => h σ3 H3 O3 v s3 (k12.trans k3) x
        | rl ds => exact fun σ3 H3 O3 a vs s3 k3 => h σ3 H3 O3 a vs s3 (k12.trans k3)
end
end DL
/-! part DL8 -/
namespace DL
open PySem PySem.Spec PyProof.Rows L2 My
/-! ### targets -/
def optEn (o : Option En) (k : En → Prop) : Prop := match o with | some ρ => k ρ | none => False
theorem optEn_mono {o : Option En} {k k' : En → Prop} (m : ∀ c, k c → k' c) (h : optEn o k) : optEn o k' := by
  cases o with
  | none => exact h.elim
  | some c => exact m c h
theorem optEn_some {o : Option En} {k : En → Prop} (h : optEn o k) : ∃ c, o = some c ∧ k c := by
  cases o with
  | none => exact h.elim
  | some c => exact ⟨c, rfl, h⟩
abbrev WG := Dt → En → Option En
/-- a target sets data alone -/
structure GD (K : PySem.W.Frag) (g : TG) (wg : WG) : Prop where
  run : ∀ (S : Type) (A : Am S) (F : Addr → Prop) (H0 : Hp) (O : Nat → Addr) (σ : L2.St) (H : Hp) (τ : En × S) (v : V) (d : Dt) (ρ' : En) (Q : L2.St → Hp → Prop), Stt K A F H0 O σ H τ → DX K (hidP (hidn F O τ.1) H) v d → wg d τ.1 = some ρ' →
    (∀ σ', Stt K A F H0 O σ' H (ρ', τ.2) → Keep F O τ.1 H O ρ' H → Q σ' H) → g v σ H Q
structure GDs (K : PySem.W.Frag) (g : TGs) (wg : List Dt → En → Option En) : Prop where
  run : ∀ (S : Type) (A : Am S) (F : Addr → Prop) (H0 : Hp) (O : Nat → Addr) (σ : L2.St) (H : Hp) (τ : En × S) (vs : List V) (ds : List Dt) (ρ' : En) (Q : L2.St → Hp → Prop), Stt K A F H0 O σ H τ → DXs K (hidP (hidn F O τ.1) H) vs ds → wg ds τ.1 = some ρ' →
    (∀ σ', Stt K A F H0 O σ' H (ρ', τ.2) → Keep F O τ.1 H O ρ' H → Q σ' H) → g vs σ H Q
def wgName (i : Nat) : WG := fun d ρ => if i < ρ.length then some (ρ.set i (.dat d)) else none
def wgNil : List Dt → En → Option En := fun ds ρ => match ds with | [] => some ρ | _ => none
def wgCons (g : WG) (r : List Dt → En → Option En) : List Dt → En → Option En := fun ds ρ => match ds with | d :: ds => (g d ρ).bind (r ds) | [] => none
def wgTup (r : List Dt → En → Option En) : WG := fun d ρ => match d with | .tup ds => r ds ρ | _ => none
def wgLst (r : List Dt → En → Option En) : WG := fun d ρ => match d with | .lst ds => r ds ρ | _ => none
theorem g_name {K : PySem.W.Frag} {i : Nat} : GD K (gName i) (wgName i) := ⟨fun S A F H0 O σ H τ v d ρ' Q st x h q => by
  unfold wgName at h
  split at h
  · rename_i c
    cases h
    exact q _ (st.setDat (by rw [← st.len]; exact c) x) (st.setKeep i (.dat d) fun ds z => nomatch z)
  · cases h⟩
theorem g_nil {K : PySem.W.Frag} : GDs K gNil wgNil := ⟨fun S A F H0 O σ H τ vs ds ρ' Q st x h q => by
  cases x with
  | nil =>
    cases h
    exact ⟨rfl, q σ st (Same.refl _)⟩
  | cons _ _ => cases h⟩
theorem g_cons {K : PySem.W.Frag} {g : TG} {gs : TGs} {wg : WG} {wr : List Dt → En → Option En} (hg : GD K g wg) (hr : GDs K gs wr) : GDs K (gCons g gs) (wgCons wg wr) := ⟨fun S A F H0 O σ H τ vs ds ρ' Q st x h q => by
  cases x with
  | nil => cases h
  | @cons v vs d ds x xs =>
    obtain ⟨ρ1, h1, h2⟩ := Option.bind_eq_some_iff.mp h
    refine ⟨v, vs, rfl, hg.run S A F H0 O σ H τ v d ρ1 _ st x h1 fun σ1 s1 k1 => ?_⟩
    exact hr.run S A F H0 O σ1 H (ρ1, τ.2) vs ds ρ' _ s1 (xs.same k1) h2 fun σ2 s2 k2 => q σ2 s2 (k1.trans k2)⟩
theorem g_tup {K : PySem.W.Frag} {gs : TGs} {wr : List Dt → En → Option En} {n : Nat} (hr : GDs K gs wr) (hn : ∀ ds ρ ρ', wr ds ρ = some ρ' → ds.length = n) : GD K (gTup K n gs) (wgTup wr) := ⟨fun S A F H0 O σ H τ v d ρ' Q st x h q => by
  cases d with
  | tup ds =>
    obtain ⟨a, vs, rfl, h1, _, h3⟩ := x.tupI
    exact ⟨a, vs, rfl, hidT h1, h3.len.trans (hn _ _ _ h), hr.run S A F H0 O σ H τ vs ds ρ' Q st h3 h q⟩
  | _ => cases h⟩
theorem g_lst {K : PySem.W.Frag} {gs : TGs} {wr : List Dt → En → Option En} {n : Nat} (hr : GDs K gs wr) (hn : ∀ ds ρ ρ', wr ds ρ = some ρ' → ds.length = n) : GD K (gLst K n gs) (wgLst wr) := ⟨fun S A F H0 O σ H τ v d ρ' Q st x h q => by
  cases d with
  | lst ds =>
    obtain ⟨a, vs, rfl, h1, _, h3⟩ := x.lstI
    exact ⟨a, vs, rfl, hidL h1, h3.len.trans (hn _ _ _ h), hr.run S A F H0 O σ H τ vs ds ρ' Q st h3 h q⟩
  | _ => cases h⟩
theorem n_nil : ∀ (ds : List Dt) (ρ ρ' : En), wgNil ds ρ = some ρ' → ds.length = 0 := fun ds ρ ρ' h => by
  cases ds with
  | nil => rfl
  | cons _ _ => cases h
theorem n_cons {g : WG} {r : List Dt → En → Option En} {n : Nat} (hr : ∀ ds ρ ρ', r ds ρ = some ρ' → ds.length = n) : ∀ (ds : List Dt) (ρ ρ' : En), wgCons g r ds ρ = some ρ' → ds.length = n + 1 := fun ds ρ ρ' h => by
  cases ds with
  | nil => cases h
  | cons d ds =>
    obtain ⟨ρ1, h1, h2⟩ := Option.bind_eq_some_iff.mp h
    rw [List.length_cons, hr _ _ _ h2]
/-! ### what is walked -/
/-- a walk gives the data ds, one after another, whatever else changes -/
def WalkD (K : PySem.W.Frag) (F : Addr → Prop) (O : Nat → Addr) (ρ : En) (H : Hp) (J : It) (ds : List Dt) : Prop := ∃ (n : Nat) (G : Hp → Prop) (Y : Nat → Hp → V → Hp → Prop), Walk J n G Y ∧ n = ds.length ∧ (∀ (P : Addr → Prop) H', Same (hidP (hidn F O ρ) H) (hidP P H') → G H') ∧
  ∀ (i : Nat) H' v H'' (P : Addr → Prop), i < n → Same (hidP (hidn F O ρ) H) (hidP P H') → (∀ p, H' p = none → ¬ P p) → Y i H' v H'' → Same H' H'' ∧ ∀ d, ds[i]? = some d → DX K (hidP P H'') v d
section
variable {S : Type}
def tIt (K : PySem.W.Frag) (A : Am S) (w : WA S) : TI := fun σ H R => ∃ F H0 O τ, Stt K A F H0 O σ H τ ∧ w.f τ fun ds τ1 => ∀ H1 O1 J, Stt K A F H0 O1 σ H1 τ1 → Keep F O τ.1 H O1 τ1.1 H1 → WalkD K F O1 τ1.1 H1 J ds → R J H1
def wItL (e : WE S) : WA S := ⟨fun τ k => e.f τ fun d τ1 => match d with | .lst ds => k ds τ1 | _ => False, fun τ k k' m h => e.mono _ _ _ (fun d τ1 h1 => by
  revert h1
  split
  · exact m _ _
  · exact id) h⟩
def wItT (e : WE S) : WA S := ⟨fun τ k => e.f τ fun d τ1 => match d with | .tup ds => k ds τ1 | _ => False, fun τ k k' m h => e.mono _ _ _ (fun d τ1 h1 => by
  revert h1
  split
  · exact m _ _
  · exact id) h⟩
/-- range(n) -/
def wRng (a : WA S) : WA S := ⟨fun τ k => a.f τ fun ds τ1 => match ds with | [.int n] => (-(2 ^ 62) ≤ n ∧ n < 2 ^ 62) ∧ k ((List.range n.toNat).map fun i => .int (i : Nat)) τ1 | _ => False, fun τ k k' m h => a.mono _ _ _ (fun d τ1 h1 => by
  revert h1
  split
  · exact fun h => ⟨h.1, m _ _ h.2⟩
  · exact id) h⟩
theorem PI.imp {X : Cx} {tg iter : Expr} {t t' : TI} (h : PI X tg iter t) (i : ∀ σ H R, t' σ H R → t σ H R) : PI X tg iter t' := ⟨fun pins s σ H R I q => h.run pins s σ H R I (i σ H R q)⟩
section
variable {X : Cx} {K : PySem.W.Frag} {A : Am S} {tg e : Expr} {es : List Expr} {body : List Stmt} {pos p : Pos}
theorem i_list {w : WE S} (he : PE X e (tE K A w)) (hK : X.K = K := by rfl) : PI X tg e (tIt K A (wItL w)) := by
  subst hK
  refine PI.imp (pi_list he) fun σ H R ⟨F, H0, O, τ, st, q⟩ => bindE st q fun H1 v O1 d τ1 s1 k1 x1 q1 => ?_
  cases d with
  | lst ds =>
    obtain ⟨a, vs, rfl, h1, _, h3⟩ := x1.lstI
    refine ⟨a, rfl, ⟨vs, hidL h1⟩, q1 H1 O1 (Itl X.K a) s1 k1 ⟨_, _, _, walk_list (xs := vs), h3.len, fun P H' s => .inl (.inl (hidP_less _ _ (s _ _ h1))), fun i H' v H'' P hi s nP y => ?_⟩⟩
    obtain ⟨rfl, hv⟩ := y
    refine ⟨Same.refl _, fun d hd => ?_⟩
    obtain ⟨u, hu, xu⟩ := h3.at_ hd
    rw [hv] at hu
    cases hu
    exact xu.same s
  | _ => exact q1.elim
theorem i_tup {w : WE S} (he : PE X e (tE K A w)) (hK : X.K = K := by rfl) : PI X tg e (tIt K A (wItT w)) := by
  subst hK
  refine PI.imp (pi_tup he) fun σ H R ⟨F, H0, O, τ, st, q⟩ => bindE st q fun H1 v O1 d τ1 s1 k1 x1 q1 => ?_
  cases d with
  | tup ds =>
    obtain ⟨a, vs, rfl, h1, _, h3⟩ := x1.tupI
    refine ⟨a, rfl, ⟨vs, hidT h1⟩, q1 H1 O1 (Itt X.K a) s1 k1 ⟨_, _, _, walk_tup (xs := vs), h3.len, fun P H' s => Same.seqT hidP_less (Same.seqT s h1), fun i H' v H'' P hi s nP y => ?_⟩⟩
    obtain ⟨rfl, hv⟩ := y
    refine ⟨Same.refl _, fun d hd => ?_⟩
    obtain ⟨u, hu, xu⟩ := h3.at_ hd
    rw [hv] at hu
    cases hu
    exact xu.same s
  | _ => exact q1.elim
/-! ### for -/
def lpN (wg : WG) (b : WS S) : List Dt → (En × S) → (Rs → En × S → Prop) → Prop
  | [], τ, k => k .nx τ
  | d :: ds, τ, k => optEn (wg d τ.1) fun ρ => b.f (ρ, τ.2) fun r τ' => match r with
    | .nx => lpN wg b ds τ' k
    | .ct => lpN wg b ds τ' k
    | .bk => k .nx τ'
    | r => k r τ'
theorem lpN_mono {wg : WG} {b : WS S} : ∀ {ds : List Dt} {τ : En × S} {k k' : Rs → En × S → Prop}, (∀ r τ', k r τ' → k' r τ') → lpN wg b ds τ k → lpN wg b ds τ k'
  | [], τ, k, k', m, h => m _ _ h
  | d :: ds, τ, k, k', m, h => optEn_mono (fun ρ h1 => b.mono _ _ _ (fun r τ' h2 => by
    cases r with
    | nx => exact lpN_mono m h2
    | ct => exact lpN_mono m h2
    | bk => exact m _ _ h2
    | rt d => exact m _ _ h2
    | rl ds => exact m _ _ h2) h1) h
def wFor (it : WA S) (wg : WG) (b : WS S) : WS S := ⟨fun τ k => it.f τ fun ds τ1 => lpN wg b ds τ1 k, fun τ k k' m h => it.mono _ _ _ (fun ds τ1 h1 => lpN_mono m h1) h⟩
theorem s_for {it : WA S} {wg : WG} {b : WS S} {g : TG} (hp : PassesOwn (model X.prog X.w) X.A X.env X.xe) (hc : X.calm = true) (hi : PI X tg e (tIt K A it)) (hg : PG X tg g) (gd : GD K g wg) (hb : PSs X body (tS K A b)) (hs : ∀ x, foldedSetIterable e X.env x = pure x := by intro _; rfl) :
    PS X (.For tg e body [] pos) (tS K A (wFor it wg b)) :=
  PS.imp (ps_for hp hc hi hg hb hs) fun D σ H ⟨F, H0, O, τ, s0, q⟩ => by
    refine ⟨F, H0, O, τ, s0, it.mono _ _ _ (fun ds τ1 q1 => ?_) q⟩
    intro H1 O1 J s1 k1 ⟨n, G, Y, wk, hn, hG, hY⟩
    refine for_it wk (fun i σ' H' => ∃ O' τ', Stt K A F H0 O' σ' H' τ' ∧ Keep F O1 τ1.1 H1 O' τ'.1 H' ∧ lpN wg b (ds.drop i) τ' (endD K A F H0 D fun O' ρ' H' => Keep F O τ.1 H O' ρ' H')) ⟨O1, τ1, s1, Same.refl _, q1⟩ (fun i σ' H' _ ⟨O', τ', _, k, _⟩ => hG _ _ k) (fun i x σ' H' H'' hi ⟨O', τ', s2, k2, q2⟩ y => ?_) (fun σ' H' ⟨O', τ', s2, k2, q2⟩ => ?_)
    · obtain ⟨d, hd⟩ : ∃ d, ds[i]? = some d := ⟨_, List.getElem?_eq_getElem (by omega)⟩
      obtain ⟨sy, xy⟩ := hY i H' x H'' _ hi k2 (fun p np => s2.fresh np) y
      rw [List.drop_eq_getElem_cons (by omega)] at q2
      have e1 : ds[i] = d := Option.some.inj ((List.getElem?_eq_getElem (by omega)).symm.trans hd)
      rw [e1] at q2
      obtain ⟨ρ, hρ, q3⟩ := optEn_some q2
      refine gd.run S A F H0 O' σ' H'' τ' x d ρ _ (s2.grow sy) (xy d hd) hρ fun σ3 s3 k3 => ⟨F, H0, O', (ρ, τ'.2), s3, b.mono _ _ _ (fun r τ4 h4 => ?_) q3⟩
      have k13 : Keep F O1 τ1.1 H1 O' ρ H'' := k2.trans ((keepS sy).trans k3)
      cases r with
      | nx => exact fun σ4 H4 O4 s4 k4 => ⟨O4, τ4, s4, k13.trans k4, h4⟩
      | ct => exact fun σ4 H4 O4 s4 k4 => ⟨O4, τ4, s4, k13.trans k4, h4⟩
      | bk => exact fun σ4 H4 O4 s4 k4 => h4 σ4 H4 O4 s4 (k1.trans (k13.trans k4))
      | rt d => exact fun σ4 H4 O4 v s4 k4 x => h4 σ4 H4 O4 v s4 (k1.trans (k13.trans k4)) x
      | rl ds => exact fun σ4 H4 O4 a vs s4 k4 => h4 σ4 H4 O4 a vs s4 (k1.trans (k13.trans k4))
    · rw [hn, List.drop_length] at q2
      exact q2 σ' H' O' s2 (k1.trans k2)
end
end
end DL
/-! part DL9 -/
namespace DL
open PySem PySem.Spec PyProof.Rows L2 My
section
variable {S : Type}
/-! ### comprehensions -/
def wipeE (ρ : En) : List Nat → En
  | [] => ρ
  | v :: vs => (wipeE ρ vs).set v .no
/-- own lists are out of sight within -/
def hideOwn (ρ : En) : En := ρ.map fun x => match x with | .own _ => .no | x => x
theorem wipeE_len (ρ : En) : ∀ vs : List Nat, (wipeE ρ vs).length = ρ.length
  | [] => rfl
  | v :: vs => by rw [wipeE, List.length_set, wipeE_len]
def lcN (wg : WG) (tt : WT S) (te : WE S) (ρ : En) : List Dt → S → List Dt → (List Dt → S → Prop) → Prop
  | [], s, acc, k => k acc s
  | d :: ds, s, acc, k => acc.length < 1000000 ∧ optEn (wg d ρ) fun ρ1 => tt.f (ρ1, s) fun b τ2 => if b = true then te.f τ2 fun e τ3 => lcN wg tt te ρ ds τ3.2 (acc ++ [e]) k else lcN wg tt te ρ ds τ2.2 acc k
theorem lcN_mono {wg : WG} {tt : WT S} {te : WE S} {ρ : En} : ∀ {ds : List Dt} {s : S} {acc : List Dt} {k k' : List Dt → S → Prop}, (∀ d s, k d s → k' d s) → lcN wg tt te ρ ds s acc k → lcN wg tt te ρ ds s acc k'
  | [], s, acc, k, k', m, h => m _ _ h
  | d :: ds, s, acc, k, k', m, h => ⟨h.1, optEn_mono (fun ρ1 h1 => tt.mono _ _ _ (fun b τ2 h2 => by
    revert h2
    split
    · exact te.mono _ _ _ (fun e τ3 h3 => lcN_mono m h3)
    · exact lcN_mono m) h1) h.2⟩
/-- [te for g in it if tt]; vs: the slots of the comprehension's own names -/
def wLc (it : WA S) (wg : WG) (tt : WT S) (te : WE S) (vs : List Nat) : WE S := ⟨fun τ k => it.f τ fun ds τ1 => lcN wg tt te (wipeE (hideOwn τ1.1) vs) ds τ1.2 [] fun acc s => acc.length ≤ 1000000 ∧ k (.lst acc) (τ1.1, s),
  fun τ k k' m h => it.mono _ _ _ (fun ds τ1 h1 => lcN_mono (fun d s h => ⟨h.1, m _ _ h.2⟩) h1) h⟩
def wYes : WT S := ⟨fun τ k => k true τ, fun _ _ _ m h => m _ _ h⟩
section
variable {X : Cx} {K : PySem.W.Frag} {A : Am S} {tg iter elt : Expr} {ifs : List Expr} {scope : Scope} {own : List (Str × Nat)} {pos : Pos}
theorem ts_nil : PTs X [] (tTs K A (wYes : WT S)) := ⟨fun pins s σ H Q I ⟨F, H0, O, τ, st, q⟩ => pts_nil.run pins s σ H Q I (q H O st (Same.refl _))⟩
theorem ts_one {c : Expr} {t : WT S} (h : PT X c (tTs K A t)) : PTs X [c] (tTs K A t) := pts_one h
theorem hide_get {ρ : En} {i : Nat} {d : Dt} (h : (hideOwn ρ)[i]? = some (.dat d)) : ρ[i]? = some (.dat d) := by
  unfold hideOwn at h
  rw [List.getElem?_map] at h
  cases e : ρ[i]? with
  | none => rw [e] at h; cases h
  | some x =>
    rw [e] at h
    cases x with
    | no => cases h
    | dat d' => exact h
    | own ds => cases h
theorem hide_own {ρ : En} {i : Nat} {ds : Cn} (h : (hideOwn ρ)[i]? = some (.own ds)) : False := by
  unfold hideOwn at h
  rw [List.getElem?_map] at h
  cases e : ρ[i]? with
  | none => rw [e] at h; cases h
  | some x =>
    rw [e] at h
    cases x <;> cases h
theorem wipe_dat {ρ : En} {σ : L2.St} {i : Nat} {d : Dt} : ∀ {vs : List Nat}, (wipeE ρ vs)[i]? = some (.dat d) → ρ[i]? = some (.dat d) ∧ (wipe σ vs)[i]? = σ[i]?
  | [], h => ⟨h, rfl⟩
  | v :: vs, h => by
    rcases set_some h with ⟨_, z⟩ | ⟨n, z⟩
    · cases z
    · obtain ⟨h1, h2⟩ := wipe_dat (σ := σ) z
      exact ⟨h1, by rw [wipe, List.getElem?_set_ne n]; exact h2⟩
theorem wipe_own {ρ : En} {i : Nat} {ds : Cn} : ∀ {vs : List Nat}, (wipeE ρ vs)[i]? = some (.own ds) → ρ[i]? = some (.own ds)
  | [], h => h
  | v :: vs, h => by
    rcases set_some h with ⟨_, z⟩ | ⟨n, z⟩
    · cases z
    · exact wipe_own z
/-- what the comprehension keeps, at each turn -/
structure LcAt (K : PySem.W.Frag) (A : Am S) (P : Addr → Prop) (H1 : Hp) (D : Addr) (H : Hp) (s : S) (acc : List Dt) : Prop where
  am : A.at_ s (fun b => P b ∨ b = D) H
  am0 : ∃ s0 P0, A.at_ s0 P0 H1
  ev : ∀ b o, H1 b = some o → ¬ A.foot b → ¬ A.tab b → H b = some o
  at_ : ∃ vs, H D = some (.lst vs) ∧ DXs K (hidP (fun b => P b ∨ b = D) H) vs acc
theorem LcAt.noTab {P : Addr → Prop} {H1 H : Hp} {D : Addr} {s : S} {acc : List Dt} (l : LcAt K A P H1 D H s acc) {b : Addr} {o : HO} (e : H1 b = some o) (n : ∀ ps, o ≠ .tbl ps) : ¬ A.tab b := fun t => by
  obtain ⟨s0, P0, h0⟩ := l.am0
  obtain ⟨ps, z⟩ := A.hasT _ _ _ _ h0 t
  rw [z] at e
  cases e
  exact n _ rfl
theorem LcAt.keep {P : Addr → Prop} {H1 H : Hp} {D : Addr} {s : S} {acc : List Dt} (l : LcAt K A P H1 D H s acc) (hf : ∀ a, A.foot a → P a) (nD : H1 D = none) : Same (hidP P H1) (hidP (fun b => P b ∨ b = D) H) := by
  refine hidP_same fun b o e n p => ⟨fun z => ?_, l.ev b o e (fun f => p (hf b f)) (l.noTab e n)⟩
  rcases z with z | z
  · exact p z
  · rw [z, nD] at e
    cases e
/-- a target sets the slots of P alone -/
def GW (g : TG) (P : Nat → Prop) : Prop := ∀ v σ H (Q Q2 : L2.St → Hp → Prop), g v σ H Q → (∀ σ2 H2, (∀ j, ¬ P j → σ2[j]? = σ[j]?) → σ2.length = σ.length → Q σ2 H2 → Q2 σ2 H2) → g v σ H Q2
def GWs (g : TGs) (P : Nat → Prop) : Prop := ∀ v σ H (Q Q2 : L2.St → Hp → Prop), g v σ H Q → (∀ σ2 H2, (∀ j, ¬ P j → σ2[j]? = σ[j]?) → σ2.length = σ.length → Q σ2 H2 → Q2 σ2 H2) → g v σ H Q2
theorem gw_name {i : Nat} {P : Nat → Prop} (h : P i) : GW (gName i) P := fun v σ H Q Q2 q m => m _ _ (fun j hj => List.getElem?_set_ne fun z => hj (by rw [← z]; exact h)) (List.length_set ..) q
theorem gw_nil {P : Nat → Prop} : GWs gNil P := fun v σ H Q Q2 q m => ⟨q.1, m _ _ (fun _ _ => rfl) rfl q.2⟩
theorem gw_cons {g : TG} {gs : TGs} {P : Nat → Prop} (h : GW g P) (hs : GWs gs P) : GWs (gCons g gs) P := fun v σ H Q Q2 ⟨u, r, e, q⟩ m => ⟨u, r, e, h u σ H _ _ q fun σ2 H2 f l q2 => hs r σ2 H2 _ _ q2 fun σ3 H3 f3 l3 q3 => m σ3 H3 (fun j hj => (f3 j hj).trans (f j hj)) (l3.trans l) q3⟩
theorem gw_tup {K : PySem.W.Frag} {n : Nat} {gs : TGs} {P : Nat → Prop} (hs : GWs gs P) : GW (gTup K n gs) P := fun v σ H Q Q2 ⟨a, xs, e, h1, h2, q⟩ m => ⟨a, xs, e, h1, h2, hs xs σ H _ _ q m⟩
theorem wipe_len (σ : L2.St) : ∀ vs : List Nat, (wipe σ vs).length = σ.length
  | [] => rfl
  | v :: vs => by rw [wipe, List.length_set, wipe_len]
theorem wipe_get (σ : L2.St) (j : Nat) : ∀ vs : List Nat, (wipe σ vs)[j]? = if j ∈ vs ∧ j < σ.length then some none else σ[j]?
  | [] => by simp [wipe]
  | v :: vs => by
    rw [wipe]
    by_cases e : v = j
    · subst e
      by_cases l : v < σ.length
      · rw [List.getElem?_set_self (by rw [wipe_len]; exact l), if_pos ⟨List.mem_cons_self, l⟩]
      · rw [List.getElem?_eq_none (by rw [List.length_set, wipe_len]; omega), if_neg (fun z => l z.2), List.getElem?_eq_none (by omega)]
    · rw [List.getElem?_set_ne e, wipe_get σ j vs]
      have : (j ∈ v :: vs) ↔ j ∈ vs := by simp [List.mem_cons, Ne.symm e]
      simp only [this]
theorem wipe_eq {σ1 σ2 : L2.St} {vs : List Nat} (h : ∀ j, ¬ j ∈ vs → σ2[j]? = (wipe σ1 vs)[j]?) (l : σ2.length = (wipe σ1 vs).length) : wipe σ2 vs = wipe σ1 vs := by
  refine List.ext_getElem? fun j => ?_
  rw [wipe_len] at l
  rw [wipe_get]
  by_cases m : j ∈ vs
  · by_cases lt : j < σ2.length
    · rw [if_pos ⟨m, lt⟩, wipe_get, if_pos ⟨m, by omega⟩]
    · rw [if_neg (fun z => lt z.2), List.getElem?_eq_none (by omega), List.getElem?_eq_none (by rw [wipe_len]; omega)]
  · rw [if_neg (fun z => m z.1)]
    exact h j m
theorem hidn_none {F : Addr → Prop} {O : Nat → Addr} {ρ : En} (h : ∀ (i : Nat) (ds : Cn), ρ[i]? = some (.own ds) → False) (b : Addr) : hidn F O ρ b ↔ F b := ⟨fun z => by
  rcases z with z | ⟨i, ds, z, _⟩
  · exact z
  · exact (h i ds z).elim, .inl⟩
theorem d_lc {it : WA S} {wg : WG} {tt : WT S} {te : WE S} {g : TG} (hc : X.calm = true) (hN : X.N.Nodup) (hi : PI X tg iter (tIt K A it)) (ok : BlkOk X.N X.env.scope scope own)
    (hg : ∀ (s : Shared) (H : Hp) (C : Addr) (cl : List (Str × Addr)) (fp : List Addr), PG (X.blk s H scope (compEnvC scope cl C X.env) fp) tg g) (gd : GD K g wg) (gw : GW g (fun j => j ∈ own.map (·.2))) (ht : ∀ (s : Shared) (H : Hp) (C : Addr) (cl : List (Str × Addr)) (fp : List Addr), PTs (X.blk s H scope (compEnvC scope cl C X.env) fp) ifs (tTs K A tt))
    (he : ∀ (s : Shared) (H : Hp) (C : Addr) (cl : List (Str × Addr)) (fp : List Addr), PE (X.blk s H scope (compEnvC scope cl C X.env) fp) elt (tE K A te)) (hs : ∀ x, foldedSetIterable iter X.env x = pure x := by intro _; rfl) :
    PE X (.ListComp elt [⟨tg, iter, ifs, 0⟩] scope pos) (tE K A (wLc it wg tt te (own.map (·.2)))) :=
  PE.imp (pe_lc hc hN hi ok hg ht he hs) fun σ H Q ⟨F, H0, O, τ, s0, q⟩ => by
    refine ⟨F, H0, O, τ, s0, it.mono _ _ _ (fun ds τ1 q1 => ?_) q⟩
    intro H1 O1 J s1 k1 ⟨n, G, Y, wk, hn, hG, hY⟩ D nD
    have ffo : ∀ a, A.foot a → hidn F O1 τ1.1 a := fun a f => .inl (s1.fin a f)
    have nfD : ¬ A.foot D := fun f => by
      obtain ⟨o, e, _⟩ := A.has _ _ _ _ s1.am f
      rw [nD] at e
      cases e
    have nP : ¬ hidn F O1 τ1.1 D := s1.fresh nD
    have neD : ∀ b o, H1 b = some o → b ≠ D := fun b o e => ne_of_none e nD
    refine lc_it wk (fun i H' => ∃ s acc, LcAt K A (hidn F O1 τ1.1) H1 D H' s acc ∧ lcN wg tt te (wipeE (hideOwn τ1.1) (own.map (·.2))) (ds.drop i) s acc fun acc s => acc.length ≤ 1000000 ∧ ∀ H' v O', Stt K A F H0 O' σ H' (τ1.1, s) → Keep F O τ.1 H O' τ1.1 H' → DX K (hidP (hidn F O' τ1.1) H') v (.lst acc) → Q v H') ?_ ?_ ?_ ?_
    · refine ⟨τ1.2, [], ⟨A.move _ _ _ _ _ s1.am (s1.laid nD) (fun b o e f => by rw [upd_ne (neD b o e)]; exact e), ⟨_, _, s1.am⟩, fun b o e _ _ => by rw [upd_ne (neD b o e)]; exact e, [], upd_same, .nil⟩, q1⟩
    · rintro i H' _ ⟨s, acc, l, _⟩
      exact hG _ _ (l.keep ffo nD)
    · rintro i x H2 H3 hlt ⟨s, acc, l, q2⟩ y
      obtain ⟨d, hd⟩ : ∃ d, ds[i]? = some d := ⟨_, List.getElem?_eq_getElem (by omega)⟩
      rw [List.drop_eq_getElem_cons (by omega), show ds[i] = d from Option.some.inj ((List.getElem?_eq_getElem (by omega)).symm.trans hd)] at q2
      obtain ⟨lacc, q2⟩ := q2
      obtain ⟨ρ2, hρ, q3⟩ := optEn_some q2
      obtain ⟨vs, hD, xs⟩ := l.at_
      have lv : vs.length = acc.length := xs.len
      -- what is hidden within, and stands
      have ex2 : ∀ a, (hidn F O1 τ1.1 a ∨ a = D) → ∃ o, H2 a = some o ∧ Hd o := fun a ha => by
        rcases ha with ha | rfl
        · by_cases f : A.foot a
          · exact A.has _ _ _ _ l.am f
          · obtain ⟨o, e1, e2⟩ := s1.ex ha
            exact ⟨o, l.ev _ _ e1 f (l.noTab e1 e2.ntb), e2⟩
        · exact ⟨_, hD, hd_lst⟩
      have fr2 : ∀ p, H2 p = none → ¬ (hidn F O1 τ1.1 p ∨ p = D) := fun p np h => by
        obtain ⟨o, e, _⟩ := ex2 p h
        rw [np] at e
        cases e
      obtain ⟨sy, xy⟩ := hY i H2 x H3 _ hlt (l.keep ffo nD) fr2 y
      have noown : ∀ (j : Nat) (es : Cn), (wipeE (hideOwn τ1.1) (own.map (·.2)))[j]? = some (.own es) → False := fun j es h => hide_own (wipe_own h)
      have hn1 := hidn_none (F := fun b => hidn F O1 τ1.1 b ∨ b = D) (O := O1) noown
      have kp : Kp (fun b => hidn F O1 τ1.1 b ∨ b = D) H2 (hidn (fun b => hidn F O1 τ1.1 b ∨ b = D) O1 (wipeE (hideOwn τ1.1) (own.map (·.2)))) H3 := fun b o e n => ⟨fun z => n ((hn1 b).mp z), sy b o e⟩
      have sh := kp.same
      have am3 := A.move _ _ _ _ _ l.am kp fun b o e _ => sy b o e
      have st : Stt K A (fun b => hidn F O1 τ1.1 b ∨ b = D) H3 O1 (wipe σ (own.map (·.2))) H3 (wipeE (hideOwn τ1.1) (own.map (·.2)), s) := by
        refine ⟨am3, ⟨_, _, am3⟩, fun a f => .inl (ffo a f), fun a ha => ?_, fun b o e _ _ => e, fun j e h => ?_, fun j es h => (noown j es h).elim, fun j k es fs h => (noown j es h).elim, ?_⟩
        · obtain ⟨o, e1, e2⟩ := ex2 a ha
          exact ⟨o, sy _ _ e1, e2⟩
        · obtain ⟨h1, h2⟩ := wipe_dat (σ := σ) h
          obtain ⟨v, g1, g2⟩ := s1.dat j e (hide_get h1)
          exact ⟨v, h2.trans g1, (g2.same (l.keep ffo nD)).same sh⟩
        · show (wipeE (hideOwn τ1.1) (own.map (·.2))).length = _
          rw [wipeE_len, wipe_len, ← s1.len]
          unfold hideOwn
          rw [List.length_map]
      refine gw x (wipe σ (own.map (·.2))) H3 _ _ (gd.run S A _ H3 O1 _ H3 _ x d ρ2 (fun σ2 H4 => Stt K A (fun b => hidn F O1 τ1.1 b ∨ b = D) H3 O1 σ2 H4 (ρ2, s) ∧ Keep (fun b => hidn F O1 τ1.1 b ∨ b = D) O1 (wipeE (hideOwn τ1.1) (own.map (·.2))) H3 O1 ρ2 H4 ∧ H4 = H3) st ((xy d hd).same (hidP_same fun b o e _ n => ⟨fun z => n ((hn1 b).mp z), e⟩)) hρ fun σ2 s2 k2 => ⟨s2, k2, rfl⟩) ?_
      rintro σ2 H4 fr ln ⟨s2, k2, rfl⟩
      refine ⟨wipe_eq fr ln, bindT s2 q3 fun H5 O5 b τ5 s5 k5 q5 => ?_⟩
      -- how a later heap stands
      have later : ∀ (H6 : Hp) (O6 : Nat → Addr) (σ6 : L2.St) (τ6 : En × S), Stt K A (fun b => hidn F O1 τ1.1 b ∨ b = D) H4 O6 σ6 H6 τ6 → Keep (fun b => hidn F O1 τ1.1 b ∨ b = D) O1 ρ2 H4 O6 τ6.1 H6 → LcAt K A (hidn F O1 τ1.1) H1 D H6 τ6.2 acc ∧ H6 D = some (.lst vs) ∧ DXs K (hidP (fun b => hidn F O1 τ1.1 b ∨ b = D) H6) vs acc := fun H6 O6 σ6 τ6 s6 k6 => by
        have hD6 : H6 D = some (.lst vs) := s6.ev D _ (sy _ _ hD) nfD (s6.noTab (.inr rfl))
        have x6 : DXs K (hidP (fun b => hidn F O1 τ1.1 b ∨ b = D) H6) vs acc := (((xs.same sh).same k2).same k6).same hidn_F
        exact ⟨⟨A.move _ _ _ _ _ s6.am (fun b o e n => ⟨fun z => n (.inl z), e⟩) (fun _ _ e _ => e), ⟨_, _, s1.am⟩, fun b o e n f => s6.ev b o (sy _ _ (l.ev b o e n f)) n f, vs, hD6, x6⟩, hD6, x6⟩
      cases b with
      | false => exact ⟨_, acc, (later H5 O5 σ2 τ5 s5 k5).1, q5⟩
      | true =>
        refine bindE s5 q5 fun H6 u O6 e τ6 s6 k6 x6 q6 => ?_
        obtain ⟨l6, hD6, xs6⟩ := later H6 O6 σ2 τ6 s6 (k5.trans k6)
        have kD : Kp (fun b => hidn F O1 τ1.1 b ∨ b = D) H6 (fun b => hidn F O1 τ1.1 b ∨ b = D) (upd H6 D (.lst (vs ++ [u]))) := fun b o e n => ⟨n, by rw [upd_ne (fun z => n (.inr z))]; exact e⟩
        refine ⟨vs, hD6, by unfold sizeLine; omega, τ6.2, acc ++ [e], ⟨A.move _ _ _ _ _ l6.am kD (fun b o e f => by rw [upd_ne (fun z => nfD (by rw [← z]; exact f))]; exact e), ⟨_, _, s1.am⟩, fun b o e n f => by rw [upd_ne (neD b o e)]; exact l6.ev b o e n f, vs ++ [u], upd_same, ?_⟩, q6⟩
        exact (xs6.same kD.same).append (.cons ((x6.same hidn_F).same kD.same) .nil)
    · rintro H2 ⟨s, acc, l, q2⟩
      rw [hn, List.drop_length] at q2
      obtain ⟨lacc, q2⟩ := q2
      obtain ⟨vs, hD, xs⟩ := l.at_
      have sP : Same (hidP (hidn F O1 τ1.1) H1) (hidP (hidn F O1 τ1.1) H2) := hidP_same fun b o e n p => ⟨p, l.ev b o e (fun f => p (ffo b f)) (l.noTab e n)⟩
      refine q2 H2 (.ref D) O1 ⟨A.move _ _ _ _ _ l.am (fun b o e n => ⟨fun z => n (.inl z), e⟩) (fun _ _ e _ => e), s1.am0, s1.fin, s1.fex, fun b o e n f => l.ev b o (s1.ev b o e n f) n f, fun j e h => ?_, fun j es h => ?_, s1.inj, s1.len⟩ (k1.trans sP) ?_
      · obtain ⟨v, g1, g2⟩ := s1.dat j e h
        exact ⟨v, g1, g2.same sP⟩
      · obtain ⟨us, g1, g2, g3, g4⟩ := s1.own j es h
        refine ⟨us, g1, g2, l.ev _ _ g3 (fun f => ?_) (l.noTab g3 g4.hd.ntb), g4.same sP⟩
        obtain ⟨o, e1, _⟩ := s1.fex _ (s1.fin _ f)
        rw [g2] at e1
        cases e1
      · refine .lst (hidP_mk nP hD fun ps z => nomatch z) (by rw [xs.len]; exact lacc) (xs.same (hidP_same fun b o e _ n => ⟨fun z => n (.inl z), e⟩))
end
end
end DL
/-! part DL10 -/
namespace DL
open PySem PySem.Spec PyProof.Rows L2 My
section
variable {S S' : Type}
/-- what a def does to data and state: a weakest precondition -/
structure WF (S : Type) where
  f : List Dt → S → (Rs → S → Prop) → Prop
  mono : ∀ ds s k k', (∀ r s', k r s' → k' r s') → f ds s k → f ds s k'
/-- a plain function -/
def wfun (g : List Dt → Option Rs) : WF S := ⟨fun ds s k => match g ds with | some r => k r s | none => False, fun ds s k k' m h => by
  revert h
  split
  · exact m _ _
  · exact id⟩
/-- all stands but the footprint and the tables -/
def EvA (A : Am S) (H H' : Hp) : Prop := ∀ b o, H b = some o → ¬ A.foot b → ¬ A.tab b → H' b = some o
def endF (K : PySem.W.Frag) (A : Am S) (F : Addr → Prop) (H : Hp) (Q : VK) : Rs → S → Prop
  | .nx, s' => ∀ H', A.at_ s' F H' → EvA A H H' → Q .non H'
  | .rt d, s' => ∀ H' v, A.at_ s' F H' → EvA A H H' → DX K (hidP F H') v d → Q v H'
  | .rl c, s' => ∀ H' a o, A.at_ s' (fun b => F b ∨ b = a) H' → EvA A H H' → H a = none → H' a = some o → CnX K (hidP (fun b => F b ∨ b = a) H') o c → Q (.ref a) H'
  | .bk, _ => False
  | .ct, _ => False
/-- the promise of a def over data; pre: the values that aren't data (a bag ..) and what is known of them are the state's -/
def spD (K : PySem.W.Frag) (A : Am S) (n : Nat) (wf : WF S) : Sp := fun vs H Q _ => ∃ (F : Addr → Prop) (s : S) (ds : List Dt), vs.length = n ∧ A.at_ s F H ∧ (∀ a, A.foot a → F a) ∧ (∀ a, F a → ∃ o, H a = some o ∧ Hd o) ∧ DXs K (hidP F H) vs ds ∧ wf.f ds s (endF K A F H Q)
theorem spD_len {K : PySem.W.Frag} {A : Am S} {n : Nat} {wf : WF S} {ps : List Str} (h : ps.length = n) : ∀ vs H Q E, spD K A n wf vs H Q E → vs.length = ps.length := fun vs H Q E ⟨F, s, ds, l, _⟩ => by rw [l, h]
/-- the start of a def's body -/
def ent (ds : List Dt) (m : Nat) : En := ds.map Sl.dat ++ List.replicate m Sl.no
theorem ent_dat {ds : List Dt} {m i : Nat} {d : Dt} (h : (ent ds m)[i]? = some (.dat d)) : ds[i]? = some d := by
  unfold ent at h
  by_cases l : i < ds.length
  · rw [List.getElem?_append_left (by rw [List.length_map]; exact l), List.getElem?_map] at h
    cases e : ds[i]? with
    | none => rw [e] at h; cases h
    | some x => rw [e] at h; cases h; rfl
  · rw [List.getElem?_append_right (by rw [List.length_map]; omega), List.getElem?_replicate] at h
    split at h <;> cases h
theorem ent_own {ds : List Dt} {es : Cn} {m i : Nat} (h : (ent ds m)[i]? = some (.own es)) : False := by
  unfold ent at h
  by_cases l : i < ds.length
  · rw [List.getElem?_append_left (by rw [List.length_map]; exact l), List.getElem?_map] at h
    cases e : ds[i]? with
    | none => rw [e] at h; cases h
    | some x => rw [e] at h; cases h
  · rw [List.getElem?_append_right (by rw [List.length_map]; omega), List.getElem?_replicate] at h
    split at h <;> cases h
theorem start_get {N : List Str} {vs : List V} {i : Nat} {v : V} (h : vs[i]? = some v) : (L2.start N vs)[i]? = some (some v) := by
  have l := (List.getElem?_eq_some_iff.mp h).1
  unfold L2.start
  rw [List.getElem?_append_left (by rw [List.length_map]; exact l), List.getElem?_map, h]
  rfl
theorem start_len {N : List Str} {vs : List V} (h : vs.length ≤ N.length) : (L2.start N vs).length = N.length := by
  unfold L2.start
  rw [List.length_append, List.length_map, List.length_replicate]
  omega
/-- THE RULE: the body's precondition follows from the promise's -/
theorem d_start {K : PySem.W.Frag} {A : Am S} {n m : Nat} {wf : WF S} {w : WS S} {N : List Str} {vs : List V} {H : Hp} {Q : VK} {E : XK} (h : spD K A n wf vs H Q E) (hN : N.length = n + m)
    (hw : ∀ ds s (k : Rs → S → Prop), ds.length = n → wf.f ds s k → w.f (ent ds m, s) fun r τ' => k r τ'.2) : tS K A w { nx := fun _ H' => Q .non H', rt := Q } (L2.start N vs) H := by
  obtain ⟨F, s, ds, l, am, fin, fex, x, q⟩ := h
  have ld : ds.length = n := by rw [← x.len, l]
  have hh : ∀ b, hidn F (fun _ => 0) (ent ds m) b ↔ F b := fun b => ⟨fun z => by
    rcases z with z | ⟨i, es, z, _⟩
    · exact z
    · exact (ent_own z).elim, .inl⟩
  have kp : Kp F H (hidn F (fun _ => 0) (ent ds m)) H := fun b o e n => ⟨fun z => n ((hh b).mp z), e⟩
  have sh := kp.same
  refine ⟨F, H, fun _ => 0, (ent ds m, s), ⟨A.move _ _ _ _ _ am kp fun _ _ e _ => e, ⟨s, _, am⟩, fin, fex, fun b o e _ _ => e, fun i d h => ?_, fun i es h => (ent_own h).elim, fun i j es fs h => (ent_own h).elim, ?_⟩, w.mono _ _ _ (fun r τ' h => ?_) (hw ds s _ ld q)⟩
  · obtain ⟨v, h1, h2⟩ := (x.same sh).at_ (ent_dat h)
    exact ⟨v, start_get h1, h2⟩
  · show (ent ds m).length = _
    rw [start_len (by omega)]
    unfold ent
    rw [List.length_append, List.length_map, List.length_replicate]
    omega
  · cases r with
    | nx => exact fun σ' H' O' s1 _ => h H' (A.move _ _ _ _ _ s1.am (fun b o e n => ⟨fun z => n (.inl z), e⟩) fun _ _ e _ => e) s1.ev
    | bk => exact h.elim
    | ct => exact h.elim
    | rt d => exact fun σ' H' O' v s1 _ x => h H' v (A.move _ _ _ _ _ s1.am (fun b o e n => ⟨fun z => n (.inl z), e⟩) fun _ _ e _ => e) s1.ev x
    | rl es => exact fun σ' H' O' a o s1 _ n0 e am x => h H' a o am s1.ev n0 e x
/-! ### calls -/
/-- how a callee's state lies in the caller's -/
structure Lens (A : Am S) (A' : Am S') where
  get : S → S'
  put : S → S' → S
  at_ : ∀ s P H, A.at_ s P H → A'.at_ (get s) P H
  foot : ∀ a, A'.foot a → A.foot a
  tab : ∀ a, A'.tab a → A.tab a
  back : ∀ s s' P P' H H', A.at_ s P H → A'.at_ s' P' H' → EvA A' H H' → (∀ a, A.foot a → P a) → (∀ b o, H b = some o → ¬ P b → ¬ P' b) → A.at_ (put s s') P' H'
/-- a callee without state -/
def Lens.none (A : Am S) : Lens A Am.none := ⟨fun _ => (), fun s _ => s, fun _ _ _ _ => trivial, fun _ h => h.elim, fun _ h => h.elim, fun s _ P P' H H' h _ e _ k => A.move _ _ _ _ _ h (fun b o z n => ⟨k b o z n, e b o z (fun f => f) fun f => f⟩) fun b o z _ => e b o z (fun f => f) fun f => f⟩
def Lens.id (A : Am S) : Lens A A := ⟨fun s => s, fun _ s => s, fun _ _ _ h => h, fun _ h => h, fun _ h => h, fun _ _ _ _ _ _ _ h _ _ _ => h⟩
/-- a call's answer as data -/
def ansK (k : Dt → S' → Prop) : Rs → S' → Prop
  | .rt d, s => k d s
  | .rl c, s => k c.dat s
  | .nx, s => k .non s
  | _, _ => False
theorem ansK_mono {k k' : Dt → S' → Prop} (m : ∀ d s, k d s → k' d s) : ∀ r s, ansK k r s → ansK k' r s
  | .rt _, _, h => m _ _ h
  | .rl _, _, h => m _ _ h
  | .nx, _, h => m _ _ h
  | .bk, _, h => h.elim
  | .ct, _, h => h.elim
/-- f(e, ..) -/
def wCall {A : Am S} {A' : Am S'} (L : Lens A A') (wf : WF S') (a : WA S) : WE S := ⟨fun τ k => a.f τ fun ds τ1 => wf.f ds (L.get τ1.2) (ansK fun d s' => k d (τ1.1, L.put τ1.2 s')), fun τ k k' m h => a.mono _ _ _ (fun ds τ1 h1 => wf.mono _ _ _ _ (ansK_mono fun d s' h2 => m _ _ h2) h1) h⟩
section
variable {K : PySem.W.Frag} {A : Am S} {A' : Am S'} {F : Addr → Prop} {H0 : Hp} {O : Nat → Addr} {σ : L2.St} {H : Hp} {τ : En × S}
theorem Stt.noFoot (st : Stt K A F H0 O σ H τ) {i : Nat} {ds : Cn} (h : τ.1[i]? = some (.own ds)) : ¬ A.foot (O i) := fun f => by
  obtain ⟨_, _, g2, _⟩ := st.own i ds h
  obtain ⟨o, e1, _⟩ := st.fex _ (st.fin _ f)
  rw [g2] at e1
  cases e1
theorem Stt.notTab (st : Stt K A F H0 O σ H τ) {a : Addr} {o : HO} (e : H a = some o) (n : ∀ ps, o ≠ .tbl ps) : ¬ A.tab a := fun t => by
  obtain ⟨ps, z⟩ := A.hasT _ _ _ _ st.am t
  rw [z] at e
  cases e
  exact n _ rfl
theorem Stt.finN (st : Stt K A F H0 O σ H τ) : ∀ a, A.foot a → hidn F O τ.1 a := fun a f => .inl (st.fin a f)
/-- behind a call -/
theorem Stt.call (st : Stt K A F H0 O σ H τ) (L : Lens A A') {s' : S'} {H' : Hp} (am : A'.at_ s' (hidn F O τ.1) H') (e : EvA A' H H') : Stt K A F H0 O σ H' (τ.1, L.put τ.2 s') ∧ Keep F O τ.1 H O τ.1 H' := by
  have sh : Same (hidP (hidn F O τ.1) H) (hidP (hidn F O τ.1) H') := hidP_same fun b o z n p => ⟨p, e b o z (fun f => p (.inl (st.fin _ (L.foot _ f)))) fun t => st.notTab z n (L.tab _ t)⟩
  refine ⟨⟨L.back _ _ _ _ _ _ st.am am e st.finN (fun _ _ _ n => n), st.am0, st.fin, st.fex, fun b o z f t => e b o (st.ev b o z f t) (fun g => f (L.foot _ g)) fun g => t (L.tab _ g), fun i d h => ?_, fun i ds h => ?_, st.inj, st.len⟩, sh⟩
  · obtain ⟨v, h1, h2⟩ := st.dat i d h
    exact ⟨v, h1, h2.same sh⟩
  · obtain ⟨vs, h1, h2, h3, h4⟩ := st.own i ds h
    exact ⟨vs, h1, h2, e _ _ h3 (fun f => st.noFoot h (L.foot _ f)) fun t => st.notTab h3 h4.hd.ntb (L.tab _ t), h4.same sh⟩
/-- what a call asks -/
theorem ask {n : Nat} {wf : WF S'} {L : Lens A A'} {ds : List Dt} {vs : List V} {Q : VK} {E : XK} (st : Stt K A F H0 O σ H τ) (x : DXs K (hidP (hidn F O τ.1) H) vs ds) (hn : vs.length = n)
    (q : wf.f ds (L.get τ.2) (ansK fun d s' => ∀ H' v O', Stt K A F H0 O' σ H' (τ.1, L.put τ.2 s') → Keep F O τ.1 H O' τ.1 H' → DX K (hidP (hidn F O' τ.1) H') v d → Q v H')) : spD K A' n wf vs H Q E := by
  refine ⟨hidn F O τ.1, L.get τ.2, ds, hn, L.at_ _ _ _ st.am, fun a f => .inl (st.fin _ (L.foot _ f)), fun a h => st.ex h, x, wf.mono _ _ _ _ (fun r s' h => ?_) q⟩
  cases r with
  | nx => exact fun H' am e => let ⟨s1, k1⟩ := st.call L am e; h H' .non O s1 k1 .non
  | rt d => exact fun H' v am e x => let ⟨s1, k1⟩ := st.call L am e; h H' v O s1 k1 x
  | rl c =>
    exact fun H' a o am e n0 ea x =>
      let ⟨s1, k1⟩ := st.call L (A'.move _ _ _ _ _ am (fun b o e n => ⟨fun z => n (.inl z), e⟩) fun _ _ e _ => e) e
      h H' (.ref a) O s1 k1 ((x.same (hidP_same fun b o e _ n => ⟨fun h => n (.inl h), e⟩)).data (hidP_mk (st.fresh n0) ea x.hd.ntb))
  | bk => exact h.elim
  | ct => exact h.elim
end
section
variable {X : Cx} {K : PySem.W.Frag} {A : Am S} {A' : Am S'} {e : Expr} {es : List Expr} {pos p : Pos} {x : Str} {k n : Nat} {f : Addr} {fd : FuncData} {ps : List Str} {wf : WF S'} {wa : WA S}
theorem d_call (L : Lens A A') (Fn : FnOk X.prog X.w X.K X.mg X.base CX0 k f fd ps (spD K A' n wf)) (hr : Room k X.A) (hg : Gl X x) (hm : X.mg x = some (.ref f)) (hk : PySem.W.keepIn X.K (.ref f) = true) (hb : Binds X.K fd ps []) (ha : PA X (e :: es) (tAs K A wa)) (hn : (e :: es).length = n := by rfl)
    (hl : ∀ τ k, wa.f τ k → wa.f τ fun ds τ1 => ds.length = (e :: es).length ∧ k ds τ1)
    (hdb : (x == ("__debug__" : Str)) = false := by decide) (he : starEach (e :: es) X.env = (false, eval e X.env) :: starEach es X.env := by rfl) (hpl : (backTo pos (starEach es X.env)).any (·.1) = false := by rfl) : PE X (.Call (.Name x p) (e :: es) [] pos) (tE K A (wCall L wf wa)) :=
  PE.imp (pe_call (E := fun _ _ _ => False) Fn hr hg hm hk hb .nil pass0 ha hdb he hpl) fun σ H Q ⟨F, H0, O, τ, st, q⟩ => bindA st (hl _ _ q) fun H1 vs O1 ds τ1 s1 k1 x1 ⟨l1, q1⟩ => by
    rw [List.append_nil]
    refine ask (L := L) s1 x1 (by rw [x1.len, l1, hn]) (wf.mono _ _ _ _ (ansK_mono fun d s' h H' v O' s2 k2 x2 => h H' v O' s2 (k1.trans k2) x2) q1)
end
end
end DL
/-! part DL11 -/
namespace DL
open PySem PySem.Spec PyProof.Rows L2 My
variable {S : Type}
/-! ### isinstance -/
def isB (d : Dt) (T : String) : Option Bool := match d with
  | .obj _ _ => none
  | .sp _ => none
  | _ => match d.ty with
    | .type a => kitB a T
    | _ => none
theorem isB_some {d : Dt} {T : String} {b : Bool} (h : isB d T = some b) : ((∀ C fs, d ≠ .obj C fs) ∧ ∀ B, d ≠ .sp B) ∧ ∀ K : PySem.W.Frag, PySem.W.kitOne K d.ty (.type T) = some b := by
  cases d with
  | obj C fs => cases h
  | sp B => cases h
  | _ => exact ⟨⟨(fun _ _ z => nomatch z), fun _ z => nomatch z⟩, fun K => kit_ty h⟩
def optB (o : Option Bool) (k : Bool → Prop) : Prop := match o with | some c => k c | none => False
theorem optB_some {o : Option Bool} {k : Bool → Prop} (h : optB o k) : ∃ c, o = some c ∧ k c := by
  cases o with
  | none => exact h.elim
  | some c => exact ⟨c, rfl, h⟩
theorem optB_mono {o : Option Bool} {k k' : Bool → Prop} (m : ∀ c, k c → k' c) (h : optB o k) : optB o k' := by
  cases o with
  | none => exact h
  | some c => exact m _ h
def wIsi (T : String) (w : WE S) : WE S := ⟨fun τ k => w.f τ fun d τ1 => optB (isB d T) fun b => k (.bl b) τ1, fun τ k k' m h => w.mono _ _ _ (fun d τ1 h1 => optB_mono (fun b => m _ _) h1) h⟩
def isB2 (d : Dt) (T U : String) : Option Bool := match isB d T with
  | some true => some true
  | some false => isB d U
  | none => none
def wIsi2 (T U : String) (w : WE S) : WE S := ⟨fun τ k => w.f τ fun d τ1 => optB (isB2 d T U) fun b => k (.bl b) τ1, fun τ k k' m h => w.mono _ _ _ (fun d τ1 h1 => optB_mono (fun b => m _ _) h1) h⟩
theorem isB2_some {d : Dt} {T U : String} {b : Bool} (h : isB2 d T U = some b) : ((∀ C fs, d ≠ .obj C fs) ∧ ∀ B, d ≠ .sp B) ∧ ∀ K : PySem.W.Frag, PySem.W.kitAny K d.ty [.type T, .type U] = some b := by
  unfold isB2 at h
  split at h
  · rename_i e
    cases h
    exact ⟨(isB_some e).1, fun K => kitAny_cons ((isB_some e).2 K) (fun z => nomatch z) fun _ => rfl⟩
  · rename_i e
    refine ⟨(isB_some e).1, fun K => kitAny_cons ((isB_some e).2 K) (fun _ => kitAny_cons ((isB_some h).2 K) (fun z => ?_) fun z => ?_) fun z => nomatch z⟩
    · rw [z]; rfl
    · rw [z]
  · cases h
section
variable {X : Cx} {K : PySem.W.Frag} {A : Am S} {e : Expr} {pos p p1 p2 p3 : Pos} {T U tx ux : Str} {n1 n2 : String} {w : WE S}
theorem d_isi (he : PE X e (tE K A w)) (hi : Gl X "isinstance") (mi : X.mg "isinstance" = none) (hT : PE X (.Name tx p1) (tC (.ty n1))) (hK : X.K = K := by rfl)
    (h1 : starEach [e, .Name tx p1] X.env = (false, eval e X.env) :: starEach [.Name tx p1] X.env := by rfl) (h2 : (backTo pos (starEach [.Name tx p1] X.env)).any (·.1) = false := by rfl) (h3 : starEach [.Name tx p1] X.env = (false, eval (.Name tx p1) X.env) :: starEach [] X.env := by rfl) : PE X (.Call (.Name "isinstance" p) [e, .Name tx p1] [] pos) (tE K A (wIsi n1 w)) := by
  subst hK
  refine PE.imp (pe_callB call_isi hi mi (by decide +kernel) (pa_cons he (pa_cons hT pa_nil h3) h1) (he := h1) (hpl := h2)) fun σ H Q ⟨F, H0, O, τ, st, q⟩ => bindE st q fun H1 v O1 d τ1 st1 k1 x1 q1 => ?_
  obtain ⟨b, e1, q2⟩ := optB_some q1
  exact ⟨v, .ty n1, d.ty, .type n1, b, rfl, .ty n1, (x1.same hidP_less).tyx (isB_some e1).1, (isB_some e1).2 _, q2 H1 _ O1 st1 k1 (.bl b)⟩
theorem d_isi2 (he : PE X e (tE K A w)) (hi : Gl X "isinstance") (mi : X.mg "isinstance" = none) (hT : PE X (.Name tx p1) (tC (.ty n1))) (hU : PE X (.Name ux p2) (tC (.ty n2))) {c} (hK : X.K = K := by rfl)
    (h1 : starEach [e, .Tuple [.Name tx p1, .Name ux p2] c p3] X.env = (false, eval e X.env) :: starEach [.Tuple [.Name tx p1, .Name ux p2] c p3] X.env := by rfl) (h2 : (backTo pos (starEach [.Tuple [.Name tx p1, .Name ux p2] c p3] X.env)).any (·.1) = false := by rfl) : PE X (.Call (.Name "isinstance" p) [e, .Tuple [.Name tx p1, .Name ux p2] c p3] [] pos) (tE K A (wIsi2 n1 n2 w)) := by
  subst hK
  refine PE.imp (pe_callB call_isiT hi mi (by decide +kernel) (pa_cons he (pa_cons (pe_tup (pa_cons hT (pa_cons hU pa_nil))) pa_nil) h1) (he := h1) (hpl := h2)) fun σ H Q ⟨F, H0, O, τ, st, q⟩ => bindE st q fun H1 v O1 d τ1 st1 k1 x1 q1 => ?_
  obtain ⟨b, e1, q2⟩ := optB_some q1
  refine ⟨mil (show 2 ≤ 1000000 by decide), fun p np => ?_⟩
  have s2 := same_new np (.tup [.ty n1, .ty n2])
  exact ⟨v, p, _, d.ty, [.type n1, .type n2], b, rfl, upd_same, .cons (.ty n1) (.cons (.ty n2) .nil), ((x1.same hidP_less).same s2).tyx (isB2_some e1).1, (isB2_some e1).2 _, q2 _ _ O1 (st1.grow s2) (k1.trans (keepS s2)) (.bl b)⟩
end
/-! ### lists made of lists -/
theorem dxNewL {K : PySem.W.Frag} {P : Addr → Prop} {H : Hp} {p : Addr} {vs : List V} {ds : List Dt} (np : H p = none) (nP : ¬ P p) (l : vs.length ≤ 1000000) (x : DXs K (hidP P H) vs ds) : DX K (hidP P (upd H p (.lst vs))) (.ref p) (.lst ds) :=
  .lst (hidP_mk nP upd_same fun ps z => nomatch z) l (x.same (hidP_same fun b o e _ n => ⟨n, same_new np _ b o e⟩))
theorem dxNewT {K : PySem.W.Frag} {P : Addr → Prop} {H : Hp} {p : Addr} {vs : List V} {ds : List Dt} (np : H p = none) (nP : ¬ P p) (l : vs.length ≤ 1000000) (x : DXs K (hidP P H) vs ds) : DX K (hidP P (upd H p (.tup vs))) (.ref p) (.tup ds) :=
  .tup (hidP_mk nP upd_same fun ps z => nomatch z) l (x.same (hidP_same fun b o e _ n => ⟨n, same_new np _ b o e⟩))
def gCat : Dt → Dt → Option Dt
  | .lst a, .lst b => if a.length + b.length ≤ 1000000 then some (.lst (a ++ b)) else none
  | _, _ => none
theorem gCat_some {d e c : Dt} (h : gCat d e = some c) : ∃ a b, d = .lst a ∧ e = .lst b ∧ a.length + b.length ≤ 1000000 ∧ c = .lst (a ++ b) := by
  unfold gCat at h
  split at h
  · rename_i a b
    by_cases l : a.length + b.length ≤ 1000000
    · rw [if_pos l] at h
      exact ⟨a, b, rfl, rfl, l, (Option.some.inj h).symm⟩
    · rw [if_neg l] at h
      cases h
  · cases h
theorem o_cat {K : PySem.W.Frag} : Op2 K rCat gCat := fun P x y d e c H Q nP hx hy h q => by
  obtain ⟨a, b, rfl, rfl, l, rfl⟩ := gCat_some h
  obtain ⟨p, vs, rfl, h1, _, h3⟩ := hx.lstI
  obtain ⟨r, us, rfl, h4, _, h6⟩ := hy.lstI
  have lv : vs.length + us.length ≤ 1000000 := by rw [h3.len, h6.len]; exact l
  exact ⟨p, r, vs, us, rfl, rfl, hidP_less _ _ h1, hidP_less _ _ h4, mil lv, fun b nb => q _ _ (same_new nb _) (dxNewL nb (nP b nb) (by rw [List.length_append]; exact lv) (h3.append h6))⟩
def gListOf : List Dt → Option Dt
  | [.lst a] => some (.lst a)
  | [.tup a] => some (.lst a)
  | _ => none
theorem o_listOf {K : PySem.W.Frag} : OpN K (fun xs H Q => ∃ p ys, xs = [.ref p] ∧ (SqL K H p ys ∨ SqT K H p ys) ∧ ∀ l, H l = none → Q (.ref l) (upd H l (.lst ys))) gListOf := fun P xs ds c H Q nP hx h q => by
  match ds, h with
  | [.lst a], h =>
    obtain ⟨v, rfl, x⟩ := hx.one
    obtain ⟨p, vs, rfl, h1, h2, h3⟩ := x.lstI
    cases h
    exact ⟨p, vs, rfl, .inl (hidL h1), fun b nb => q _ _ (same_new nb _) (dxNewL nb (nP b nb) h2 h3)⟩
  | [.tup a], h =>
    obtain ⟨v, rfl, x⟩ := hx.one
    obtain ⟨p, vs, rfl, h1, h2, h3⟩ := x.tupI
    cases h
    exact ⟨p, vs, rfl, .inr (hidT h1), fun b nb => q _ _ (same_new nb _) (dxNewL nb (nP b nb) h2 h3)⟩
def gTupOf : List Dt → Option Dt
  | [.lst a] => some (.tup a)
  | [.tup a] => some (.tup a)
  | _ => none
theorem o_tupOf {K : PySem.W.Frag} : OpN K (fun xs H Q => ∃ p ys, xs = [.ref p] ∧ ((SqL K H p ys ∧ ∀ l, H l = none → Q (.ref l) (upd H l (.tup ys))) ∨ (SqT K H p ys ∧ Q (.ref p) H))) gTupOf := fun P xs ds c H Q nP hx h q => by
  match ds, h with
  | [.lst a], h =>
    obtain ⟨v, rfl, x⟩ := hx.one
    obtain ⟨p, vs, rfl, h1, h2, h3⟩ := x.lstI
    cases h
    exact ⟨p, vs, rfl, .inl ⟨hidL h1, fun b nb => q _ _ (same_new nb _) (dxNewT nb (nP b nb) h2 h3)⟩⟩
  | [.tup a], h =>
    obtain ⟨v, rfl, x⟩ := hx.one
    cases h
    cases x with
    | tup h1 h2 h3 => exact ⟨_, _, rfl, .inr ⟨.inl (.inl (hidP_less _ _ h1)), q H _ (Same.refl H) (.tup h1 h2 h3)⟩⟩
end DL
/-! part KitNK -/
/-! a tuple as a key that a dict of text keys doesn't hold -/
namespace PySem
open SeqAt
section
variable {prog : Program} {w : World} {A : Around} {E : Value → Shared → Prop} {s : Shared}
theorem nk_mayTell {a : Addr} {k : NestedKey} {stored : List Value} {Q : Bool → Shared → Prop} (hkey : (nestedKind prog w).is s.heap k a)
    (hst : ∀ v ∈ stored, ∃ x t, v = .str x t) (h : Q false s) : wpAny (model prog w) A (tableMayTell (.ref a) stored) Q E s := by
  unfold tableMayTell
  split
  · exact wpAny_pure h
  · refine wpAny_bind ((nestedKind prog w).quiet hkey ?_)
    simp only [Bool.not_true, Bool.false_eq_true, if_false]
    refine wpAny_bind ?_
    refine wpAny_forIn_list _ (fun rest r s' => s' = s ∧ r = (none, ()) ∧ ∀ v ∈ rest, ∃ x t, v = .str x t) _ ?_ ?_ _ _ ⟨rfl, rfl, hst⟩
    · rintro x rest r s' ⟨rfl, rfl, hr⟩
      obtain ⟨y, t, rfl⟩ := hr x List.mem_cons_self
      refine wpAny_bind (quiet_key (prog := prog) (w := w) (.text y) (.str y t) 8 s' (.text y t) (by simp [NestedKey.depth]) A E _ ?_)
      simp only [Bool.not_true, Bool.false_eq_true, if_false]
      exact wpAny_pure ⟨rfl, rfl, fun v hv => hr v (List.mem_cons_of_mem _ hv)⟩
    · rintro r s' ⟨rfl, rfl, _⟩
      exact wpAny_pure h
theorem nk_find {d a : Addr} {o : Obj} {es : Array DictEntry} {ep : Nat} {ks : List NestedKey} {hs : Int} {Q : Option Nat → Shared → Prop} (hu : (nestedKind prog w).room A) (hkey : (nestedKind prog w).is s.heap (.tup ks) a)
    (ho : s.heap.get? d = some o) (hd : o.data = .dict es ep) (hk : ∀ e ∈ es, ∃ x t, e.key = .str x t) (h : Q none s) : wpAny (model prog w) A (dictFind d (.ref a) hs) Q E s := by
  have hany : ¬ (es.any fun e => e.key == Value.ref a && e.hash != hs) = true := by
    rw [← Array.any_toList, List.any_eq_true]
    rintro ⟨e, hin, hc⟩
    obtain ⟨x, t, e1⟩ := hk e (Array.mem_toList_iff.mp hin)
    rw [e1] at hc
    simp at hc
  have hst : ∀ v ∈ (placesWithHash es.size (fun i => es[i]?.map (·.hash)) hs).filterMap (fun i => es[i]?.map (·.key)), ∃ x t, v = .str x t := by
    intro v hv
    obtain ⟨i, _, hi⟩ := List.mem_filterMap.mp hv
    cases hei : es[i]? with
    | none => rw [hei] at hi; cases hi
    | some e =>
      rw [hei] at hi
      obtain rfl : e.key = v := by simpa using hi
      exact hk e (Array.mem_of_getElem? hei)
  have hone : ¬ (((placesWithHash es.size (fun i => es[i]?.map (·.hash)) hs).filterMap (fun i => es[i]?.map (·.key))) == [Value.ref a]) = true := fun z => by
    have z2 := beq_iff_eq.mp z
    obtain ⟨x, t, z3⟩ := hst (.ref a) (by rw [z2]; exact List.mem_cons_self)
    cases z3
  unfold dictFind
  try with_reducible refine wpAny_holding ?_
  refine wpAny_bind (wpAny_dictEntries ho hd ?_)
  dsimp only
  rw [if_neg (show ¬ ((Value.ref a :: (placesWithHash es.size (fun i => es[i]?.map (·.hash)) hs).filterMap (fun i => es[i]?.map (·.key))).all carriedByValue) = true by simp [carriedByValue])]
  rw [if_neg hany]
  rw [if_neg hone]
  refine wpAny_bind (nk_mayTell hkey hst ?_)
  rw [if_neg (by simp)]
  refine wpAny_bind ?_
  refine wpAny_forIn_list _ (fun rest b s' => s' = s ∧ b = (none, none)) _ ?_ ?_ _ _ ⟨rfl, rfl⟩
  · rintro x rest b s' ⟨rfl, rfl⟩
    cases hex : es[x]? with
    | none => exact wpAny_pure ⟨rfl, rfl⟩
    | some e =>
      dsimp only
      by_cases hh : (e.hash == hs) = true
      · rw [if_pos hh]
        obtain ⟨y, t, ek⟩ := hk e (Array.mem_of_getElem? hex)
        rw [ek]
        refine wpAny_bind (wpAny_dictEpoch ho hd (wpAny_bind (eqAt_key (.text y) (.tup ks) A s' (.str y t) (.ref a) (.text y t) hkey.1 (by have := hu; simp only [nestedKind] at this; simp only [NestedKey.depth]; omega) _ _ _ _ (wpAny_bind (wpAny_dictEpoch ho hd ?_)))))
        show wpAny _ _ (if (ep != ep) = true then _ else _) _ E _
        rw [if_neg (by simp)]
        simp only [NestedKey.beq, Bool.false_eq_true, if_false]
        refine wpAny_bind (wpAny_rule ?_)
        first | rw [if_neg (by simp)] | skip
        first
          | exact wpAny_pure ⟨rfl, rfl⟩
          | exact wpAny_bind (wpAny_pure (wpAny_pure ⟨rfl, rfl⟩))
      · rw [if_neg hh]
        exact wpAny_pure ⟨rfl, rfl⟩
  · rintro b s' ⟨rfl, rfl⟩
    exact wpAny_pure h
theorem nk_contains {d a : Addr} {o : Obj} {es : Array DictEntry} {ep : Nat} {ks : List NestedKey} {Q : Bool → Shared → Prop} (hu : (nestedKind prog w).room A.in1) (hkey : (nestedKind prog w).is s.heap (.tup ks) a) (hl : (d == sysModules) = false)
    (hT : s.TypeIs (.ref d) "dict") (ho : s.heap.get? d = some o) (hd : o.data = .dict es ep) (hk : ∀ e ∈ es, ∃ x t, e.key = .str x t) (h : Q false { s with toks := s.toks + (NestedKey.tup ks).draws }) : wpAny (model prog w) A (contains (.ref d) (.ref a)) Q E s := by
  refine wpAny_contains_slot hT F.slot_dict_contains ?_
  refine call_meetsIn F.slot_dict_contains hT F.entry_dict_contains (F.args_dict_contains_2 _ _) (S := fun A' R s' => A' = A ∧ s' = s ∧ R (.ok (.ret (.bool false))) { s with toks := s.toks + (NestedKey.tup ks).draws }) (fun A' R s' hS => ?_) ⟨rfl, rfl, wpAny_truthy_bool h⟩
  obtain ⟨rfl, rfl, hq⟩ := hS
  show wpAny _ _ (dictGet d (.ref a) >>= _) _ _ _
  refine wpAny_bind ?_
  unfold dictGet
  try with_reducible refine wpAny_holding ?_
  refine wpAny_bind ((nestedKind prog w).pyHash hu hkey (wpAny_bind (nk_find (s := { s' with toks := s'.toks + (nestedKind prog w).draws (.tup ks) }) hu hkey ho hd hk ?_)))
  refine wpAny_pure ?_
  show wpAny _ _ (Builtin.Dict.pendingKey? d (.ref a) >>= _) _ _ _
  exact wpAny_bind (wpAny_pendingKey_other hl (wpAny_pure hq))
end
end PySem
/-! part DL12 -/
namespace DL
open PySem PySem.Spec PyProof.Rows L2 My
variable {S : Type}
/-! ### data as a key of any depth -/
mutual
def nkD : Dt → Option NestedKey
  | .non => some .none
  | .int i => some (.num i)
  | .bl b => some (.num (if b = true then 1 else 0))
  | .str z => some (.text z)
  | .tup ds => (nkDs ds).map .tup
  | _ => none
def nkDs : List Dt → Option (List NestedKey)
  | [] => some []
  | d :: ds => match nkD d, nkDs ds with
    | some k, some ks => some (k :: ks)
    | _, _ => none
end
section
variable {X : Cx} {pins : List (Addr × Obj)} {σ : L2.St} {H : Hp} {s : Shared}
mutual
theorem nk_is (I : Inv X pins σ H s) : ∀ {v : V} {d : Dt} {k : NestedKey} {u : Value}, DX X.K H v d → nkD d = some k → RelV v u → NestedIs s.heap k u
  | _, _, _, _, .non, h, r => by
    cases h
    cases r
    exact .none
  | _, _, _, _, .bl b, h, r => by
    cases h
    cases r
    exact .bool rfl
  | _, _, _, _, .int i, h, r => by
    cases h
    obtain ⟨t, rfl⟩ := r
    exact .int i t
  | _, _, _, _, .str z, h, r => by
    cases h
    obtain ⟨t, rfl⟩ := r
    exact .text z t
  | _, _, _, _, .lst _ _ _, h, _ => by cases h
  | _, _, _, _, .tup (ds := ds) e _ x, h, r => by
    rw [nkD] at h
    cases q : nkDs ds with
    | none => rw [q] at h; cases h
    | some ks =>
      rw [q] at h
      cases h
      cases r
      obtain ⟨its, rv, ⟨o, e1, e2, n, e3⟩, _⟩ := I.tuple (.inl (.inl e))
      exact .tup e1 e2 e3 (by simpa using nks_is I x q rv)
  | _, _, _, _, .dct _ _, h, _ => by cases h
  | _, _, _, _, .dck _ _, h, _ => by cases h
  | _, _, _, _, .obj _ _, h, _ => by cases h
  | _, _, _, _, .sp _, h, _ => by cases h
theorem nks_is (I : Inv X pins σ H s) : ∀ {vs : List V} {ds : List Dt} {ks : List NestedKey} {us : List Value}, DXs X.K H vs ds → nkDs ds = some ks → Vals vs us → NestedAll s.heap ks us
  | _, _, _, _, .nil, h, r => by
    cases h
    cases r
    exact .nil
  | _, _, _, _, .cons (d := d) (ds := ds) x y, h, r => by
    rw [nkDs] at h
    cases q : nkD d with
    | none => rw [q] at h; cases h
    | some k =>
      cases q2 : nkDs ds with
      | none => rw [q, q2] at h; cases h
      | some ks =>
        rw [q, q2] at h
        cases h
        cases r with
        | cons r1 r2 => exact .cons (nk_is I x q r1) (nks_is I y q2 r2)
end
end
/-! ### in a written dict of text keys -/
/-- the dict at d has the text keys zs -/
structure TxtD (K : PySem.W.Frag) (w : World) (d : Addr) (zs : List Str) : Prop where
  ex : ∃ es n, KDict K w d es n ∧ ∀ z, ∃ r, PySem.W.nsIn K d z = some r ∧ r.isSome = zs.contains z
def rInT (K : PySem.W.Frag) (dd : Addr) (zs : List Str) (neg : Bool) : R2 := fun x y H Q => y = .ref dd ∧ ((∃ z, x = .str z ∧ Q (.bl (zs.contains z != neg)) H) ∨ (∃ ds k, DX K H x (.tup ds) ∧ nkD (.tup ds) = some k ∧ k.depth ≤ 8 ∧ Q (.bl neg) H) ∨ ∃ i, x = .int i ∧ Q (.bl neg) H)
theorem tupKey {ds : List Dt} {k : NestedKey} (h : nkD (.tup ds) = some k) : ∃ ks, k = .tup ks := by
  rw [nkD] at h
  cases q : nkDs ds with
  | none => rw [q] at h; cases h
  | some ks =>
    rw [q] at h
    cases h
    exact ⟨ks, rfl⟩
section
variable {X : Cx} {dd : Addr} {zs : List Str}
/-- an int among text keys -/
theorem int_map {es : Array DictEntry} {n : Nat} (D : KDict X.K X.w dd es n) {h : Heap} (kin : X.K.In h) : h.MapOf (mixKind X.prog X.w) dd (fun k => findBy keyIs es k) :=
  ⟨_, es, n, kin _ _ D.at_, ⟨rfl, rfl, rfl⟩, rfl, fun e he => by
    obtain ⟨x, t, e1, e2⟩ := D.lit.all e (Array.mem_toList_iff.mpr he)
    exact ⟨.inr x, by rw [e1]; exact mixKind_str X.prog X.w x t, e2⟩, fun _ => rfl⟩
theorem int_find {es : Array DictEntry} {n : Nat} (D : KDict X.K X.w dd es n) (i : Int) : (findBy keyIs es (.inl i : Key)).isSome = false := by
  unfold findBy
  rw [Option.isSome_map]
  cases h : es.find? fun e => keyIs (.inl i) e.key with
  | none => rfl
  | some e =>
    obtain ⟨x, t, e1, _⟩ := D.lit.all e (Array.mem_toList_iff.mpr (Array.mem_of_find?_eq_some h))
    have q := Array.find?_some h
    rw [e1] at q
    cases q
theorem op_inT (D : TxtD X.K X.w dd zs) (hu : X.A.units + 64 < cLine) : OpR X (compareOp .In) (rInT X.K dd zs false) := by
  intro pins s σ H x y v u Q I rx ry h
  obtain ⟨es, n, D1, D2⟩ := D.ex
  obtain ⟨rfl, h⟩ := h
  rcases h with ⟨z, rfl, q⟩ | ⟨ds, k, hx, hk, hd, q⟩ | ⟨i, rfl, q⟩
  · obtain ⟨r, e1, e2⟩ := D2 z
    exact op_in_kd D1 pins s σ H _ _ _ _ Q I rx ry ⟨z, r, rfl, rfl, e1, by rw [e2]; simpa using q⟩
  · obtain ⟨ks, rfl⟩ := tupKey hk
    have nk := nk_is I hx hk rx
    cases ry
    cases hx with
    | tup e _ _ =>
      cases rx
      have ho := I.kIn _ _ D1.at_
      show wpAny (model X.prog X.w) X.A (do return Value.bool (← contains (.ref dd) (.ref _))) _ _ s
      exact wpAny_bind (nk_contains (ks := ks) (by show X.A.units + 1 + 8 < cLine; omega) ⟨nk, hd⟩ D1.low ⟨_, ho, rfl⟩ ho rfl (fun e he => by
        obtain ⟨y, t, e1, _⟩ := D1.lit.all e (Array.mem_toList_iff.mpr he)
        exact ⟨y, t, e1⟩) (wpAny_pure ⟨.bl false, H, I.tok _, rfl, q⟩))
  · obtain ⟨t, rfl⟩ := rx
    cases ry
    refine wpAny_in_of (mixKind_int X.prog X.w i t) D1.low (int_map D1 I.kIn) ?_
    rw [int_find D1]
    exact ⟨.bl false, H, I.tok _, rfl, q⟩
theorem op_notInT (D : TxtD X.K X.w dd zs) (hu : X.A.units + 64 < cLine) : OpR X (compareOp .NotIn) (rInT X.K dd zs true) := by
  intro pins s σ H x y v u Q I rx ry h
  obtain ⟨es, n, D1, D2⟩ := D.ex
  obtain ⟨rfl, h⟩ := h
  rcases h with ⟨z, rfl, q⟩ | ⟨ds, k, hx, hk, hd, q⟩ | ⟨i, rfl, q⟩
  · obtain ⟨r, e1, e2⟩ := D2 z
    exact op_notIn_kd D1 pins s σ H _ _ _ _ Q I rx ry ⟨z, r, rfl, rfl, e1, by rw [e2]; simpa using q⟩
  · obtain ⟨ks, rfl⟩ := tupKey hk
    have nk := nk_is I hx hk rx
    cases ry
    cases hx with
    | tup e _ _ =>
      cases rx
      have ho := I.kIn _ _ D1.at_
      show wpAny (model X.prog X.w) X.A (do return Value.bool (!(← contains (.ref dd) (.ref _)))) _ _ s
      exact wpAny_bind (nk_contains (ks := ks) (by show X.A.units + 1 + 8 < cLine; omega) ⟨nk, hd⟩ D1.low ⟨_, ho, rfl⟩ ho rfl (fun e he => by
        obtain ⟨y, t, e1, _⟩ := D1.lit.all e (Array.mem_toList_iff.mpr he)
        exact ⟨y, t, e1⟩) (wpAny_pure ⟨.bl true, H, I.tok _, rfl, q⟩))
  · obtain ⟨t, rfl⟩ := rx
    cases ry
    refine wpAny_notIn_of (mixKind_int X.prog X.w i t) D1.low (int_map D1 I.kIn) ?_
    rw [int_find D1]
    exact ⟨.bl true, H, I.tok _, rfl, q⟩
end
def inT (zs : List Str) (neg : Bool) : Dt → Option Bool
  | .str z => some (zs.contains z != neg)
  | .tup ds => match nkD (.tup ds) with
    | some k => if k.depth ≤ 8 then some neg else none
    | none => none
  | .int _ => some neg
  | _ => none
def wInT (zs : List Str) (neg : Bool) (w : WE S) : WT S := ⟨fun τ k => w.f τ fun d τ1 => optB (inT zs neg d) fun b => k b τ1, fun τ k k' m h => w.mono _ _ _ (fun d τ1 h1 => optB_mono (fun b => m _ _) h1) h⟩
theorem inT_run {K : PySem.W.Frag} {dd : Addr} {zs : List Str} {neg b : Bool} {v : V} {d : Dt} {H H' : Hp} {Q : VK} (x : DX K H v d) (s : Same H H') (e : inT zs neg d = some b) (q : Q (.bl b) H') : rInT K dd zs neg v (.ref dd) H' Q := by
  refine ⟨rfl, ?_⟩
  cases d with
  | str z =>
    cases e
    cases x
    exact .inl ⟨z, rfl, q⟩
  | tup ds =>
    unfold inT at e
    dsimp only at e
    cases h : nkD (.tup ds) with
    | none => rw [h] at e; cases e
    | some k =>
      rw [h] at e
      dsimp only at e
      by_cases l : k.depth ≤ 8
      · rw [if_pos l] at e
        cases e
        exact .inr (.inl ⟨ds, k, x.same s, h, l, q⟩)
      · rw [if_neg l] at e
        cases e
  | int i =>
    cases e
    cases x
    exact .inr (.inr ⟨i, rfl, q⟩)
  | _ => cases e
section
variable {X : Cx} {K : PySem.W.Frag} {A : Am S} {a b : Expr} {pos : Pos} {dd : Addr} {zs : List Str} {w : WE S}
theorem t_inT (D : TxtD X.K X.w dd zs) (hu : X.A.units + 64 < cLine) (ha : PE X a (tE K A w)) (hb : PE X b (tC (.ref dd))) (hm : behindInMarks .In b = false) (hK : X.K = K := by rfl) : PT X (.Compare a [.In] [b] pos) (tTs K A (wInT zs false w)) := by
  subst hK
  refine PT.imp (pt_cmpR (op_inT D hu) ha hb hm) fun σ H Q ⟨F, H0, O, τ, st, q⟩ => bindE st q fun H1 v O1 d τ1 st1 k1 x1 q1 => ?_
  obtain ⟨c, e1, q2⟩ := optB_some q1
  exact inT_run (Q := fun z H2 => ∃ b, z = .bl b ∧ Q b H2) (x1.same hidP_less) (Same.refl _) e1 ⟨c, rfl, q2 H1 O1 st1 k1⟩
theorem t_notInT (D : TxtD X.K X.w dd zs) (hu : X.A.units + 64 < cLine) (ha : PE X a (tE K A w)) (hb : PE X b (tC (.ref dd))) (hm : behindInMarks .NotIn b = false) (hK : X.K = K := by rfl) : PT X (.Compare a [.NotIn] [b] pos) (tTs K A (wInT zs true w)) := by
  subst hK
  refine PT.imp (pt_cmpR (op_notInT D hu) ha hb hm) fun σ H Q ⟨F, H0, O, τ, st, q⟩ => bindE st q fun H1 v O1 d τ1 st1 k1 x1 q1 => ?_
  obtain ⟨c, e1, q2⟩ := optB_some q1
  exact inT_run (Q := fun z H2 => ∃ b, z = .bl b ∧ Q b H2) (x1.same hidP_less) (Same.refl _) e1 ⟨c, rfl, q2 H1 O1 st1 k1⟩
end
end DL
/-! part DL13 -/
namespace DL
open PySem PySem.Spec PyProof.Rows L2 My
variable {S : Type}
/-! ### (x, y, ..) = e -/
def wAsg (g : WG) (w : WE S) : WS S := ⟨fun τ k => w.f τ fun d τ1 => optEn (g d τ1.1) fun ρ => k .nx (ρ, τ1.2), fun τ k k' m h => w.mono _ _ _ (fun d τ1 h1 => optEn_mono (fun ρ => m _ _) h1) h⟩
section
variable {X : Cx} {K : PySem.W.Frag} {A : Am S} {e tg : Expr} {pos : Pos} {w : WE S} {g : TG} {wg : WG}
theorem s_asg (he : PE X e (tE K A w)) (hg : PG X tg g) (gd : GD K g wg)
    (hs : swapsWithSole [tg] e pos.line X.env = pure false := by rfl) (hw : swappedStores [tg] e X.env = pure none := by rfl) (h1 : (assignEach [tg] X.env).map (·.2) = [assign tg X.env] := by rfl) : PS X (.Assign [tg] e pos) (tS K A (wAsg wg w)) :=
  PS.imp (ps_asg he hg hs hw h1) fun D σ H ⟨F, H0, O, τ, s0, q⟩ => bindE s0 q fun H1 v O1 d τ1 s1 k1 x1 q1 => by
    obtain ⟨ρ, e1, q2⟩ := optEn_some q1
    exact gd.run S A F H0 O1 σ H1 τ1 v d ρ _ s1 x1 e1 fun σ2 s2 k2 => q2 σ2 H1 O1 s2 (k1.trans k2)
/-- a def's body: its derivation, and what is left: the reading without a heap -/
theorem d_body {K : PySem.W.Frag} {A : Am S} {n m : Nat} {wf : WF S} {ws : WS S} {N : List Str} {vs : List V} {H : Hp} {Q : VK} {E : XK} {X : Cx} {body : List Stmt} (h : spD K A n wf vs H Q E) (hN : N.length = n + m) (hp : PSs X body (tS K A ws))
    (hw : ∀ ds s (k : Rs → S → Prop), ds.length = n → wf.f ds s k → ws.f (ent ds m, s) fun r τ' => k r τ'.2) : ∃ t, PSs X body t ∧ t { nx := fun _ H' => Q .non H', rt := Q } (L2.start N vs) H :=
  ⟨_, hp, d_start h hN hw⟩
end
end DL
/-! part DL14 -/
namespace DL
open PySem PySem.Spec PyProof.Rows L2 My
variable {S : Type}
/-! ### *e in a display -/
def seqD : Dt → Option (List Dt)
  | .lst ds => some ds
  | .tup ds => some ds
  | _ => none
def optL (o : Option (List Dt)) (k : List Dt → Prop) : Prop := match o with | some c => k c | none => False
theorem optL_some {o : Option (List Dt)} {k : List Dt → Prop} (h : optL o k) : ∃ c, o = some c ∧ k c := by
  cases o with
  | none => exact h.elim
  | some c => exact ⟨c, rfl, h⟩
theorem optL_mono {o : Option (List Dt)} {k k' : List Dt → Prop} (m : ∀ c, k c → k' c) (h : optL o k) : optL o k' := by
  cases o with
  | none => exact h
  | some c => exact m _ h
def wStar (e : WE S) (r : WA S) : WA S := ⟨fun τ k => e.f τ fun d τ1 => optL (seqD d) fun ds => r.f τ1 fun es τ2 => k (ds ++ es) τ2, fun τ k k' m h => e.mono _ _ _ (fun d τ1 h1 => optL_mono (fun ds h2 => r.mono _ _ _ (fun es τ2 h3 => m _ _ h3) h2) h1) h⟩
section
variable {X : Cx} {K : PySem.W.Frag} {A : Am S} {e : Expr} {es : List Expr} {p : Pos} {w : WE S} {r : WA S}
theorem a_star (he : PE X e (tE K A w)) (hr : PA X es (tAs K A r)) (hK : X.K = K := by rfl) (hs : starEach (.Starred e p :: es) X.env = (true, eval e X.env) :: starEach es X.env := by rfl) : PA X (.Starred e p :: es) (tAs K A (wStar w r)) := by
  subst hK
  refine PA.imp (StX.pa_star he hr hs) fun σ H Q ⟨F, H0, O, τ, st, q⟩ => bindE st q fun H1 v O1 d τ1 s1 k1 x1 q1 => ?_
  obtain ⟨ds, e1, q2⟩ := optL_some q1
  have go : ∀ (a : Addr) (vs : List V), v = .ref a → (SqT X.K H1 a vs ∨ SqL X.K H1 a vs) → DXs X.K (hidP (hidn F O1 τ1.1) H1) vs ds → ∃ p xs, v = V.ref p ∧ (SqT X.K H1 p xs ∨ SqL X.K H1 p xs) ∧ tAs X.K A r σ H1 fun ys H2 => Q (xs ++ ys) H2 :=
    fun a vs ev h x => ⟨a, vs, ev, h, bindA s1 q2 fun H2 us O2 us' τ2 s2 k2 x2 q3 => q3 H2 (vs ++ us) O2 s2 (k1.trans k2) ((x.same k2).append x2)⟩
  cases d with
  | lst ds' =>
    cases e1
    obtain ⟨a, vs, rfl, h1, _, h3⟩ := x1.lstI
    exact go a vs rfl (.inr (hidL h1)) h3
  | tup ds' =>
    cases e1
    obtain ⟨a, vs, rfl, h1, _, h3⟩ := x1.tupI
    exact go a vs rfl (.inl (hidT h1)) h3
  | _ => cases e1
end
end DL
/-! part DL15 -/
namespace DL
open PySem PySem.Spec PyProof.Rows L2 My
variable {S S' : Type}
/-! ### expressions that make a new list -/
abbrev hidQ (F : Addr → Prop) (O : Nat → Addr) (ρ : En) (p : Addr) : Addr → Prop := fun b => hidn F O ρ b ∨ b = p
/-- a thing c just made at p stands beside all else, nothing sees it -/
structure StN (K : PySem.W.Frag) (A : Am S) (F : Addr → Prop) (H0 : Hp) (O : Nat → Addr) (σ : L2.St) (H : Hp) (τ : En × S) (p : Addr) (o : HO) (c : Cn) : Prop where
  st : Stt K A F H0 O σ H τ
  new0 : H0 p = Option.none
  at_ : H p = some o
  nh : ¬ hidn F O τ.1 p
  am : A.at_ τ.2 (hidQ F O τ.1 p) H
  x : CnX K (hidP (hidQ F O τ.1 p) H) o c
  dat : ∀ (i : Nat) (d : Dt), τ.1[i]? = some (Sl.dat d) → ∃ v, σ[i]? = some (some v) ∧ DX K (hidP (hidQ F O τ.1 p) H) v d
  own : ∀ (i : Nat) (e : Cn), τ.1[i]? = some (Sl.own e) → ∃ u, σ[i]? = some (some (.ref (O i))) ∧ H0 (O i) = Option.none ∧ H (O i) = some u ∧ CnX K (hidP (hidQ F O τ.1 p) H) u e
def tN (K : PySem.W.Frag) (A : Am S) (w : WA S) : TE := fun σ H Q => ∃ F H0 O τ, Stt K A F H0 O σ H τ ∧ w.f τ fun ds τ' => ∀ H' p o O', StN K A F H0 O' σ H' τ' p o (.lst ds) → Same (hidP (hidn F O τ.1) H) (hidP (hidQ F O' τ'.1 p) H') → Q (.ref p) H'
section
variable {K : PySem.W.Frag} {A : Am S} {F : Addr → Prop} {H0 : Hp} {O : Nat → Addr} {σ : L2.St} {H H1 H2 : Hp} {τ : En × S} {p : Addr} {o : HO} {c : Cn}
theorem StN.mk' (st : Stt K A F H0 O σ H1 τ) {s' : S} (am : A.at_ s' (hidQ F O τ.1 p) H2) (ev : EvA A H1 H2) (np : H1 p = Option.none) (hat : H2 p = some o) (x : CnX K (hidP (hidQ F O τ.1 p) H2) o c) :
    StN K A F H0 O σ H2 (τ.1, s') p o c ∧ Same (hidP (hidn F O τ.1) H1) (hidP (hidQ F O τ.1 p) H2) := by
  obtain ⟨s2, _⟩ := st.call (Lens.id A) (A.move _ _ _ _ _ am (fun b o e n => ⟨fun z => n (.inl z), e⟩) fun _ _ e _ => e) ev
  have sh : Same (hidP (hidn F O τ.1) H1) (hidP (hidQ F O τ.1 p) H2) := hidP_same fun b o z n h => ⟨fun q => q.elim h (ne_of_none z np), ev b o z (fun f => h (.inl (st.fin _ f))) fun t => st.notTab z n t⟩
  refine ⟨⟨s2, st.new0 np, hat, st.fresh np, am, x, fun i d h => ?_, fun i es h => ?_⟩, sh⟩
  · obtain ⟨v, h1, h2⟩ := st.dat i d h
    exact ⟨v, h1, h2.same sh⟩
  · obtain ⟨us, h1, h2, h3, h4⟩ := st.own i es h
    exact ⟨us, h1, h2, ev _ _ h3 (fun f => st.noFoot h f) fun t => st.notTab h3 h4.hd.ntb t, h4.same sh⟩
theorem evUpd (st : Stt K A F H0 O σ H1 τ) (np : H1 p = Option.none) (u : HO) : EvA A H1 (upd H1 p u) := fun b o e _ _ => same_new np u b o e
/-- a thing laid just now -/
theorem StN.lay (st : Stt K A F H0 O σ H1 τ) (np : H1 p = Option.none) (x : CnX K (hidP (hidn F O τ.1) H1) o c) :
    StN K A F H0 O σ (upd H1 p o) τ p o c ∧ Same (hidP (hidn F O τ.1) H1) (hidP (hidQ F O τ.1 p) (upd H1 p o)) :=
  StN.mk' st (A.move _ _ _ _ _ st.am (st.laid np) fun b u e _ => same_new np _ b u e) (evUpd st np _) np upd_same (x.same (st.laid np).same)
theorem hidQ_less {ρ : En} : Same (hidP (hidQ F O ρ p) H) (hidP (hidn F O ρ) H) := hidP_same fun b o e _ n => ⟨fun h => n (.inl h), e⟩
/-- as data -/
theorem StN.data (n : StN K A F H0 O σ H τ p o c) : DX K (hidP (hidn F O τ.1) H) (.ref p) c.dat := (n.x.same hidQ_less).data (hidP_mk n.nh n.at_ n.x.hd.ntb)
/-- x = a new thing -/
theorem StN.set (n : StN K A F H0 O σ H τ p o c) {i : Nat} (hi : i < σ.length) :
    Stt K A F H0 (fun j => if j = i then p else O j) (σ.set i (some (.ref p))) H (putSl τ i (.own c)) ∧ Same (hidP (hidQ F O τ.1 p) H) (hidP (hidn F (fun j => if j = i then p else O j) (putSl τ i (.own c)).1) H) := by
  obtain ⟨s, k⟩ := n.st.ownAt hi n.new0 n.nh n.at_ n.am n.dat n.own n.x
  exact ⟨s, k.same⟩
end
def wNewL (w : WA S) : WE S := ⟨fun τ k => w.f τ fun ds τ1 => k (.lst ds) τ1, fun τ k k' m h => w.mono _ _ _ (fun ds τ1 h1 => m _ _ h1) h⟩
def wRetL (w : WA S) : WS S := ⟨fun τ k => w.f τ fun ds τ1 => k (.rl (.lst ds)) τ1, fun τ k k' m h => w.mono _ _ _ (fun ds τ1 h1 => m _ _ h1) h⟩
def wSetL (i : Nat) (w : WA S) : WS S := ⟨fun τ k => w.f τ fun ds τ1 => wPut i τ1 (.own (.lst ds)) k, fun τ k k' m h => w.mono _ _ _ (fun ds τ1 h1 => wPut_mono m h1) h⟩
def wLenA (w : WA S) : WA S := ⟨fun τ k => w.f τ fun ds τ1 => ds.length ≤ 1000000 ∧ k ds τ1, fun τ k k' m h => w.mono _ _ _ (fun ds τ1 h1 => ⟨h1.1, m _ _ h1.2⟩) h⟩
def wOLst (g : List Dt → Option (List Dt)) (a : WA S) : WA S := ⟨fun τ k => a.f τ fun ds τ1 => optL (g ds) fun es => k es τ1, fun τ k k' m h => a.mono _ _ _ (fun ds τ1 h1 => optL_mono (fun es => m _ _) h1) h⟩
/-- a call whose answer is a new list -/
def wCallN {A : Am S} {A' : Am S'} (L : Lens A A') (wf : WF S') (a : WA S) : WA S := ⟨fun τ k => a.f τ fun ds τ1 => wf.f ds (L.get τ1.2) fun r s' => match r with | .rl (.lst es) => k es (τ1.1, L.put τ1.2 s') | _ => False, fun τ k k' m h => a.mono _ _ _ (fun ds τ1 h1 => wf.mono _ _ _ _ (fun r s' h2 => by
  revert h2
  split
  · exact m _ _
  · exact id) h1) h⟩
section
variable {X : Cx} {K : PySem.W.Frag} {A : Am S} {A' : Am S'} {e : Expr} {es : List Expr} {pos p : Pos} {w : WA S}
theorem d_new (h : PE X e (tN K A w)) : PE X e (tE K A (wNewL w)) := PE.imp h fun σ H Q ⟨F, H0, O, τ, st, q⟩ => ⟨F, H0, O, τ, st, w.mono _ _ _ (fun ds τ1 q1 H' p o O' n k => q1 H' (.ref p) O' n.st (k.trans hidQ_less) n.data) q⟩
theorem s_retL (he : PE X e (tN K A w)) : PS X (.Return (some e) pos) (tS K A (wRetL w)) := PS.imp (ps_ret he) fun D σ H ⟨F, H0, O, τ, s0, q⟩ => ⟨F, H0, O, τ, s0, w.mono _ _ _ (fun ds τ1 q1 H' p o O' n k => q1 σ H' O' p o n.st (k.trans hidQ_less) n.new0 n.at_ (A.move _ _ _ _ _ n.am (fun b o e m => ⟨fun h => m (h.elim (fun f => .inl (.inl f)) .inr), e⟩) fun _ _ e _ => e) (n.x.same (hidP_same fun b o e _ m => ⟨fun h => m (h.elim (fun f => .inl (.inl f)) .inr), e⟩))) q⟩
theorem s_setL {i : Nat} {x : Str} {pos' : Pos} (nd : X.N.Nodup) (hi : X.N[i]? = some x) (hx : Loc X.env.scope x) (he : PE X e (tN K A w)) (hf : X.fn x = true ∨ X.env.scope.names.lookup x = some .local := by first | exact .inl rfl | exact .inr rfl | assumption)
    (hs : swapsWithSole [.Name x pos'] e pos.line X.env = pure false := by rfl) (hw : swappedStores [.Name x pos'] e X.env = pure none := by rfl) (h1 : (assignEach [.Name x pos'] X.env).map (·.2) = [assign (.Name x pos') X.env] := by rfl) : PS X (.Assign [.Name x pos'] e pos) (tS K A (wSetL i w)) :=
  PS.imp (ps_asg he (pg_name nd hi hx hf) hs hw h1) fun D σ H ⟨F, H0, O, τ, s0, q⟩ => ⟨F, H0, O, τ, s0, w.mono _ _ _ (fun ds τ1 q1 H' p o O' n k => by
    unfold wPut at q1
    split at q1
    · rename_i c
      obtain ⟨s2, k2⟩ := n.set (by rw [← n.st.len]; exact c)
      exact q1 _ H' _ s2 (k.trans k2)
    · exact q1.elim) q⟩
theorem n_lst (h : PA X es (tAs K A w)) : PE X (.List es pos) (tN K A (wLenA w)) :=
  PE.imp (pe_lst h) fun σ H Q ⟨F, H0, O, τ, st, q⟩ => bindA st q fun H1 vs O1 ds τ1 st1 k1 x1 ⟨l, q1⟩ => by
    have lv : vs.length ≤ 1000000 := by rw [x1.len]; exact l
    refine ⟨mil lv, fun p np => ?_⟩
    obtain ⟨n, k⟩ := StN.lay st1 np (.lst lv x1)
    exact q1 _ _ _ O1 n (k1.trans k)
end
end DL
/-! part DL16 -/
namespace DL
open PySem PySem.Spec PyProof.Rows L2 My
variable {S S' : Type}
def wLcA (it : WA S) (wg : WG) (tt : WT S) (te : WE S) (vs : List Nat) : WA S := ⟨fun τ k => it.f τ fun ds τ1 => lcN wg tt te (wipeE (hideOwn τ1.1) vs) ds τ1.2 [] fun acc s => acc.length ≤ 1000000 ∧ k acc (τ1.1, s),
  fun τ k k' m h => it.mono _ _ _ (fun ds τ1 h1 => lcN_mono (fun d s h => ⟨h.1, m _ _ h.2⟩) h1) h⟩
section
variable {X : Cx} {K : PySem.W.Frag} {A : Am S} {tg iter elt : Expr} {ifs : List Expr} {scope : Scope} {own : List (Str × Nat)} {pos : Pos}
theorem n_lc {it : WA S} {wg : WG} {tt : WT S} {te : WE S} {g : TG} (hc : X.calm = true) (hN : X.N.Nodup) (hi : PI X tg iter (tIt K A it)) (ok : BlkOk X.N X.env.scope scope own)
    (hg : ∀ (s : Shared) (H : Hp) (C : Addr) (cl : List (Str × Addr)) (fp : List Addr), PG (X.blk s H scope (compEnvC scope cl C X.env) fp) tg g) (gd : GD K g wg) (gw : GW g (fun j => j ∈ own.map (·.2))) (ht : ∀ (s : Shared) (H : Hp) (C : Addr) (cl : List (Str × Addr)) (fp : List Addr), PTs (X.blk s H scope (compEnvC scope cl C X.env) fp) ifs (tTs K A tt))
    (he : ∀ (s : Shared) (H : Hp) (C : Addr) (cl : List (Str × Addr)) (fp : List Addr), PE (X.blk s H scope (compEnvC scope cl C X.env) fp) elt (tE K A te)) (hs : ∀ x, foldedSetIterable iter X.env x = pure x := by intro _; rfl) :
    PE X (.ListComp elt [⟨tg, iter, ifs, 0⟩] scope pos) (tN K A (wLcA it wg tt te (own.map (·.2)))) :=
  PE.imp (pe_lc hc hN hi ok hg ht he hs) fun σ H Q ⟨F, H0, O, τ, s0, q⟩ => by
    refine ⟨F, H0, O, τ, s0, it.mono _ _ _ (fun ds τ1 q1 => ?_) q⟩
    intro H1 O1 J s1 k1 ⟨n, G, Y, wk, hn, hG, hY⟩ D nD
    have ffo : ∀ a, A.foot a → hidn F O1 τ1.1 a := fun a f => .inl (s1.fin a f)
    have nfD : ¬ A.foot D := fun f => by
      obtain ⟨o, e, _⟩ := A.has _ _ _ _ s1.am f
      rw [nD] at e
      cases e
    have nP : ¬ hidn F O1 τ1.1 D := s1.fresh nD
    have neD : ∀ b o, H1 b = some o → b ≠ D := fun b o e => ne_of_none e nD
    refine lc_it wk (fun i H' => ∃ s acc, LcAt K A (hidn F O1 τ1.1) H1 D H' s acc ∧ lcN wg tt te (wipeE (hideOwn τ1.1) (own.map (·.2))) (ds.drop i) s acc fun acc s => acc.length ≤ 1000000 ∧ ∀ H' p o O', StN K A F H0 O' σ H' (τ1.1, s) p o (.lst acc) → Same (hidP (hidn F O τ.1) H) (hidP (hidQ F O' τ1.1 p) H') → Q (.ref p) H') ?_ ?_ ?_ ?_
    · refine ⟨τ1.2, [], ⟨A.move _ _ _ _ _ s1.am (s1.laid nD) (fun b o e f => by rw [upd_ne (neD b o e)]; exact e), ⟨_, _, s1.am⟩, fun b o e _ _ => by rw [upd_ne (neD b o e)]; exact e, [], upd_same, .nil⟩, q1⟩
    · rintro i H' _ ⟨s, acc, l, _⟩
      exact hG _ _ (l.keep ffo nD)
    · rintro i x H2 H3 hlt ⟨s, acc, l, q2⟩ y
      obtain ⟨d, hd⟩ : ∃ d, ds[i]? = some d := ⟨_, List.getElem?_eq_getElem (by omega)⟩
      rw [List.drop_eq_getElem_cons (by omega), show ds[i] = d from Option.some.inj ((List.getElem?_eq_getElem (by omega)).symm.trans hd)] at q2
      obtain ⟨lacc, q2⟩ := q2
      obtain ⟨ρ2, hρ, q3⟩ := optEn_some q2
      obtain ⟨vs, hD, xs⟩ := l.at_
      have lv : vs.length = acc.length := xs.len
      -- what is hidden within, and stands
      have ex2 : ∀ a, (hidn F O1 τ1.1 a ∨ a = D) → ∃ o, H2 a = some o ∧ Hd o := fun a ha => by
        rcases ha with ha | rfl
        · by_cases f : A.foot a
          · exact A.has _ _ _ _ l.am f
          · obtain ⟨o, e1, e2⟩ := s1.ex ha
            exact ⟨o, l.ev _ _ e1 f (l.noTab e1 e2.ntb), e2⟩
        · exact ⟨_, hD, hd_lst⟩
      have fr2 : ∀ p, H2 p = none → ¬ (hidn F O1 τ1.1 p ∨ p = D) := fun p np h => by
        obtain ⟨o, e, _⟩ := ex2 p h
        rw [np] at e
        cases e
      obtain ⟨sy, xy⟩ := hY i H2 x H3 _ hlt (l.keep ffo nD) fr2 y
      have noown : ∀ (j : Nat) (es : Cn), (wipeE (hideOwn τ1.1) (own.map (·.2)))[j]? = some (.own es) → False := fun j es h => hide_own (wipe_own h)
      have hn1 := hidn_none (F := fun b => hidn F O1 τ1.1 b ∨ b = D) (O := O1) noown
      have kp : Kp (fun b => hidn F O1 τ1.1 b ∨ b = D) H2 (hidn (fun b => hidn F O1 τ1.1 b ∨ b = D) O1 (wipeE (hideOwn τ1.1) (own.map (·.2)))) H3 := fun b o e n => ⟨fun z => n ((hn1 b).mp z), sy b o e⟩
      have sh := kp.same
      have am3 := A.move _ _ _ _ _ l.am kp fun b o e _ => sy b o e
      have st : Stt K A (fun b => hidn F O1 τ1.1 b ∨ b = D) H3 O1 (wipe σ (own.map (·.2))) H3 (wipeE (hideOwn τ1.1) (own.map (·.2)), s) := by
        refine ⟨am3, ⟨_, _, am3⟩, fun a f => .inl (ffo a f), fun a ha => ?_, fun b o e _ _ => e, fun j e h => ?_, fun j es h => (noown j es h).elim, fun j k es fs h => (noown j es h).elim, ?_⟩
        · obtain ⟨o, e1, e2⟩ := ex2 a ha
          exact ⟨o, sy _ _ e1, e2⟩
        · obtain ⟨h1, h2⟩ := wipe_dat (σ := σ) h
          obtain ⟨v, g1, g2⟩ := s1.dat j e (hide_get h1)
          exact ⟨v, h2.trans g1, (g2.same (l.keep ffo nD)).same sh⟩
        · show (wipeE (hideOwn τ1.1) (own.map (·.2))).length = _
          rw [wipeE_len, wipe_len, ← s1.len]
          unfold hideOwn
          rw [List.length_map]
      refine gw x (wipe σ (own.map (·.2))) H3 _ _ (gd.run S A _ H3 O1 _ H3 _ x d ρ2 (fun σ2 H4 => Stt K A (fun b => hidn F O1 τ1.1 b ∨ b = D) H3 O1 σ2 H4 (ρ2, s) ∧ Keep (fun b => hidn F O1 τ1.1 b ∨ b = D) O1 (wipeE (hideOwn τ1.1) (own.map (·.2))) H3 O1 ρ2 H4 ∧ H4 = H3) st ((xy d hd).same (hidP_same fun b o e _ n => ⟨fun z => n ((hn1 b).mp z), e⟩)) hρ fun σ2 s2 k2 => ⟨s2, k2, rfl⟩) ?_
      rintro σ2 H4 fr ln ⟨s2, k2, rfl⟩
      refine ⟨wipe_eq fr ln, bindT s2 q3 fun H5 O5 b τ5 s5 k5 q5 => ?_⟩
      -- how a later heap stands
      have later : ∀ (H6 : Hp) (O6 : Nat → Addr) (σ6 : L2.St) (τ6 : En × S), Stt K A (fun b => hidn F O1 τ1.1 b ∨ b = D) H4 O6 σ6 H6 τ6 → Keep (fun b => hidn F O1 τ1.1 b ∨ b = D) O1 ρ2 H4 O6 τ6.1 H6 → LcAt K A (hidn F O1 τ1.1) H1 D H6 τ6.2 acc ∧ H6 D = some (.lst vs) ∧ DXs K (hidP (fun b => hidn F O1 τ1.1 b ∨ b = D) H6) vs acc := fun H6 O6 σ6 τ6 s6 k6 => by
        have hD6 : H6 D = some (.lst vs) := s6.ev D _ (sy _ _ hD) nfD (s6.noTab (.inr rfl))
        have x6 : DXs K (hidP (fun b => hidn F O1 τ1.1 b ∨ b = D) H6) vs acc := (((xs.same sh).same k2).same k6).same hidn_F
        exact ⟨⟨A.move _ _ _ _ _ s6.am (fun b o e n => ⟨fun z => n (.inl z), e⟩) (fun _ _ e _ => e), ⟨_, _, s1.am⟩, fun b o e n f => s6.ev b o (sy _ _ (l.ev b o e n f)) n f, vs, hD6, x6⟩, hD6, x6⟩
      cases b with
      | false => exact ⟨_, acc, (later H5 O5 σ2 τ5 s5 k5).1, q5⟩
      | true =>
        refine bindE s5 q5 fun H6 u O6 e τ6 s6 k6 x6 q6 => ?_
        obtain ⟨l6, hD6, xs6⟩ := later H6 O6 σ2 τ6 s6 (k5.trans k6)
        have kD : Kp (fun b => hidn F O1 τ1.1 b ∨ b = D) H6 (fun b => hidn F O1 τ1.1 b ∨ b = D) (upd H6 D (.lst (vs ++ [u]))) := fun b o e n => ⟨n, by rw [upd_ne (fun z => n (.inr z))]; exact e⟩
        refine ⟨vs, hD6, by unfold sizeLine; omega, τ6.2, acc ++ [e], ⟨A.move _ _ _ _ _ l6.am kD (fun b o e f => by rw [upd_ne (fun z => nfD (by rw [← z]; exact f))]; exact e), ⟨_, _, s1.am⟩, fun b o e n f => by rw [upd_ne (neD b o e)]; exact l6.ev b o e n f, vs ++ [u], upd_same, ?_⟩, q6⟩
        exact (xs6.same kD.same).append (.cons ((x6.same hidn_F).same kD.same) .nil)
    · rintro H2 ⟨s, acc, l, q2⟩
      rw [hn, List.drop_length] at q2
      obtain ⟨lacc, q2⟩ := q2
      obtain ⟨vs, hD, xs⟩ := l.at_
      obtain ⟨n2, k2⟩ := StN.mk' s1 l.am (fun b o e n f => l.ev b o e n f) nD hD (.lst (by rw [xs.len]; exact lacc) xs)
      exact q2 H2 D _ O1 n2 (k1.trans k2)
end
section
variable {X : Cx} {K : PySem.W.Frag} {A : Am S} {A' : Am S'} {a b e : Expr} {es : List Expr} {pos p : Pos} {x : Str}
def gListN : List Dt → Option (List Dt)
  | [.lst a] => some a
  | [.tup a] => some a
  | _ => none
/-- list(e) -/
theorem n_listOf {wa : WA S} (hgl : Gl X "list") (hm : X.mg "list" = none) (ha : PA X (e :: es) (tAs K A wa)) (hK : X.K = K := by rfl)
    (he : starEach (e :: es) X.env = (false, eval e X.env) :: starEach es X.env := by rfl) (hpl : (backTo pos (starEach es X.env)).any (·.1) = false := by rfl) : PE X (.Call (.Name "list" p) (e :: es) [] pos) (tN K A (wOLst gListN wa)) := by
  subst hK
  refine PE.imp (pe_callTy call_list_of hgl hm (by decide +kernel) ha (by decide) (by decide) he hpl) fun σ H Q ⟨F, H0, O, τ, st, q⟩ => bindA st q fun H1 vs O1 ds τ1 s1 k1 x1 q1 => ?_
  obtain ⟨es, e1, q2⟩ := optL_some q1
  match ds, e1 with
  | [.lst a], e1 =>
    obtain ⟨v, rfl, x⟩ := x1.one
    obtain ⟨c, us, rfl, h1, h2, h3⟩ := x.lstI
    cases e1
    refine ⟨c, us, rfl, .inl (hidL h1), fun l nl => ?_⟩
    obtain ⟨n, k⟩ := StN.lay s1 nl (.lst h2 h3)
    exact q2 _ _ _ O1 n (k1.trans k)
  | [.tup a], e1 =>
    obtain ⟨v, rfl, x⟩ := x1.one
    obtain ⟨c, us, rfl, h1, h2, h3⟩ := x.tupI
    cases e1
    refine ⟨c, us, rfl, .inr (hidT h1), fun l nl => ?_⟩
    obtain ⟨n, k⟩ := StN.lay s1 nl (.lst h2 h3)
    exact q2 _ _ _ O1 n (k1.trans k)
def wCat (a b : WE S) : WA S := ⟨fun τ k => a.f τ fun d τ1 => b.f τ1 fun e τ2 => match d, e with | .lst xs, .lst ys => xs.length + ys.length ≤ 1000000 ∧ k (xs ++ ys) τ2 | _, _ => False, fun τ k k' m h => a.mono _ _ _ (fun d τ1 h1 => b.mono _ _ _ (fun e τ2 h2 => by
  revert h2
  split
  · exact fun h => ⟨h.1, m _ _ h.2⟩
  · exact id) h1) h⟩
/-- list + list -/
theorem n_cat {wa wb : WE S} (ha : PE X a (tE K A wa)) (hb : PE X b (tE K A wb)) : PE X (.BinOp a .Add b pos) (tN K A (wCat wa wb)) := PE.imp (pe_op op_cat ha hb) fun σ H Q ⟨F, H0, O, τ, st, q⟩ => by
  refine bindE st q fun H1 v O1 d τ1 s1 k1 x1 q1 => bindE s1 q1 fun H2 u O2 e τ2 s2 k2 x2 q2 => ?_
  split at q2
  · obtain ⟨l, q3⟩ := q2
    obtain ⟨c, us, rfl, h1, _, h3⟩ := (x1.same k2).lstI
    obtain ⟨c2, us2, rfl, h4, _, h6⟩ := x2.lstI
    have lv : us.length + us2.length ≤ 1000000 := by rw [h3.len, h6.len]; exact l
    refine ⟨c, c2, us, us2, rfl, rfl, hidP_less _ _ h1, hidP_less _ _ h4, mil lv, fun r nr => ?_⟩
    obtain ⟨n, k⟩ := StN.lay s2 nr (.lst (by rw [List.length_append]; exact lv) (h3.append h6))
    exact q3 _ _ _ O2 n ((k1.trans k2).trans k)
  · exact q2.elim
end
section
variable {X : Cx} {K : PySem.W.Frag} {A : Am S} {A' : Am S'} {e : Expr} {es : List Expr} {pos p : Pos} {x : Str} {k n : Nat} {f : Addr} {fd : FuncData} {ps : List Str} {wf : WF S'} {wa : WA S}
theorem n_call (L : Lens A A') (Fn : FnOk X.prog X.w X.K X.mg X.base CX0 k f fd ps (spD K A' n wf)) (hr : Room k X.A) (hg : Gl X x) (hm : X.mg x = some (.ref f)) (hk : PySem.W.keepIn X.K (.ref f) = true) (hb : Binds X.K fd ps []) (ha : PA X (e :: es) (tAs K A wa)) (hn : (e :: es).length = n := by rfl)
    (hl : ∀ τ k, wa.f τ k → wa.f τ fun ds τ1 => ds.length = (e :: es).length ∧ k ds τ1)
    (hdb : (x == ("__debug__" : Str)) = false := by decide) (he : starEach (e :: es) X.env = (false, eval e X.env) :: starEach es X.env := by rfl) (hpl : (backTo pos (starEach es X.env)).any (·.1) = false := by rfl) : PE X (.Call (.Name x p) (e :: es) [] pos) (tN K A (wCallN L wf wa)) :=
  PE.imp (pe_call (E := fun _ _ _ => False) Fn hr hg hm hk hb .nil pass0 ha hdb he hpl) fun σ H Q ⟨F, H0, O, τ, st, q⟩ => bindA st (hl _ _ q) fun H1 vs O1 ds τ1 s1 k1 x1 ⟨l1, q1⟩ => by
    rw [List.append_nil]
    refine ⟨hidn F O1 τ1.1, L.get τ1.2, ds, by rw [x1.len, l1, hn], L.at_ _ _ _ s1.am, fun a f => .inl (s1.fin _ (L.foot _ f)), fun a h => s1.ex h, x1, wf.mono _ _ _ _ (fun r s' h => ?_) q1⟩
    cases r with
    | rl c =>
      cases c with
      | lst es =>
        intro H' a o am ev n0 ea x
        obtain ⟨n2, k2⟩ := StN.mk' s1 (L.back _ _ _ _ _ _ s1.am am ev s1.finN (fun b o z n h => h.elim n (ne_of_none z n0))) (fun b o e nf nt => ev b o e (fun g => nf (L.foot _ g)) fun g => nt (L.tab _ g)) n0 ea x
        exact h H' a _ O1 n2 (k1.trans k2)
      | _ => exact h.elim
    | nx => exact h.elim
    | rt d => exact h.elim
    | bk => exact h.elim
    | ct => exact h.elim
end
end DL
/-! part DL17 -/
namespace DL
open PySem PySem.Spec PyProof.Rows L2 My
variable {S : Type}
/-! ### t[n:], a tuple -/
theorem cut_from (xs : List V) (n : Nat) (h : n ≤ xs.length) : cutV xs (some (n : Int)) none = xs.drop n := by
  unfold cutV
  have e1 : HT.sIx xs.length 0 (some (n : Int)) = n := by
    simp only [HT.sIx]
    split <;> omega
  have e2 : HT.sIx xs.length xs.length none = xs.length := rfl
  rw [e1, e2]
  exact List.take_of_length_le (by rw [List.length_drop]; exact Nat.le_refl _)
def gDrop (n : Nat) : Dt → Option Dt
  | .tup ds => if 1 ≤ n ∧ n ≤ ds.length then some (.tup (ds.drop n)) else none
  | _ => none
theorem gDrop_some {n : Nat} {d c : Dt} (h : gDrop n d = some c) : ∃ ds, d = .tup ds ∧ 1 ≤ n ∧ n ≤ ds.length ∧ c = .tup (ds.drop n) := by
  unfold gDrop at h
  split at h
  · rename_i ds
    by_cases l : 1 ≤ n ∧ n ≤ ds.length
    · rw [if_pos l] at h
      exact ⟨ds, rfl, l.1, l.2, (Option.some.inj h).symm⟩
    · rw [if_neg l] at h
      cases h
  · cases h
section
variable {X : Cx} {K : PySem.W.Frag} {A : Am S} {e lo : Expr} {pos p2 : Pos} {w : WE S} {n : Nat}
theorem d_from (he : PE X e (tE K A w)) (hn : PE X lo (tC (.int (n : Int)))) (hK : X.K = K := by rfl) : PE X (.Subscript e (.Slice (some lo) none none p2) pos) (tE K A (wO1 (gDrop n) w)) := by
  subst hK
  refine PE.imp (pe_slice sl_tup he (po_some hn) po_none) fun σ H Q ⟨F, H0, O, τ, st, q⟩ => bindE st q fun H1 v O1 d τ1 s1 k1 x1 q1 => ?_
  obtain ⟨c, hc, q2⟩ := some_of q1
  obtain ⟨ds, rfl, h1, h2, rfl⟩ := gDrop_some hc
  obtain ⟨a, vs, rfl, g1, g2, g3⟩ := x1.tupI
  have lv : n ≤ vs.length := by rw [g3.len]; exact h2
  refine ⟨(n : Int), rfl, a, vs, rfl, hidT g1, ?_, fun r nr => ?_⟩
  · rintro ⟨z, _⟩
    have e1 : HT.sIx vs.length 0 (some (n : Int)) = n := by
      simp only [HT.sIx]
      split <;> omega
    rw [e1] at z
    omega
  · rw [cut_from vs n lv]
    have s2 := same_new nr (.tup (vs.drop n))
    have sh : Same (hidP (hidn F O1 τ1.1) H1) (hidP (hidn F O1 τ1.1) (upd H1 r (.tup (vs.drop n)))) := hidP_same fun b o e _ n => ⟨n, s2 b o e⟩
    exact q2 _ _ O1 (s1.grow s2) (k1.trans sh) (.tup (hidP_mk (s1.fresh nr) upd_same fun ps z => nomatch z) (by rw [List.length_drop]; omega) ((g3.drop n).same sh))
end
end DL
/-! part DL18 -/
namespace DL
open PySem PySem.Spec PyProof.Rows L2 My
variable {S : Type}
/-! ### dicts whose keys are tuples of whole numbers and texts, read -/
def keyD1 : Dt → Option Key
  | .int i => some (.inl i)
  | .str z => some (.inr z)
  | _ => none
def keyDs : List Dt → Option (List Key)
  | [] => some []
  | d :: ds => match keyD1 d, keyDs ds with
    | some k, some ks => some (k :: ks)
    | _, _ => none
def keyD : Dt → Option (List Key)
  | .tup ds => keyDs ds
  | _ => none
def valD (ps : List (List Key × Dt)) (k : List Key) : Option Dt := (ps.find? fun kv => decide (kv.1 = k)).map (·.2)
theorem keyD1_v {K : PySem.W.Frag} {H : Hp} {v : V} {d : Dt} {k : Key} (x : DX K H v d) (h : keyD1 d = some k) : v = kV k := by
  cases d with
  | int i =>
    cases h
    cases x
    rfl
  | str z =>
    cases h
    cases x
    rfl
  | _ => cases h
theorem keyDs_v {K : PySem.W.Frag} {H : Hp} : ∀ {vs : List V} {ds : List Dt} {ks : List Key}, DXs K H vs ds → keyDs ds = some ks → vs = ks.map kV
  | _, _, _, .nil, h => by
    cases h
    rfl
  | _, _, _, .cons (d := d) (ds := ds) x y, h => by
    rw [keyDs] at h
    cases q : keyD1 d with
    | none => rw [q] at h; cases h
    | some k =>
      cases q2 : keyDs ds with
      | none => rw [q, q2] at h; cases h
      | some ks =>
        rw [q, q2] at h
        cases h
        rw [List.map_cons, keyD1_v x q, keyDs_v y q2]
/-- what a dict holds at a key -/
inductive OptX (K : PySem.W.Frag) (H : Hp) : Option V → Option Dt → Prop
  | none : OptX K H none none
  | some {v : V} {d : Dt} : DX K H v d → OptX K H (some v) (some d)
theorem valD_x {K : PySem.W.Frag} {H : Hp} (k : List Key) : ∀ {kvs : List (List Key × V)} {ps : List (List Key × Dt)}, DXt K H kvs ps → OptX K H (valV kvs k) (valD ps k)
  | _, _, .nil => .none
  | _, _, .cons (k := j) (v := v) (vs := vs) (d := d) (ds := ds) x y => by
    have ih := valD_x k y
    unfold valV valD at ih ⊢
    rw [List.find?_cons, List.find?_cons]
    by_cases e : j = k
    · rw [decide_eq_true (show ((j, v).1 : List Key) = k from e)]
      exact .some x
    · rw [decide_eq_false (show ¬ ((j, v).1 : List Key) = k from e)]
      exact ih
def getD2 (d k x : Dt) : Option Dt := match d, keyD k with
  | .dct ps, some ks => some ((valD ps ks).getD x)
  | _, _ => none
def wGet2 (a b c : WE S) : WE S := ⟨fun τ k => a.f τ fun d τ1 => (∃ ps, d = .dct ps) ∧ b.f τ1 fun e τ2 => c.f τ2 fun x τ3 => optK (getD2 d e x) fun r => k r τ3,
  fun τ k k' m h => a.mono _ _ _ (fun d τ1 h1 => ⟨h1.1, b.mono _ _ _ (fun e τ2 h2 => c.mono _ _ _ (fun x τ3 h3 => optK_mono (fun r => m _ _) h3) h2) h1.2⟩) h⟩
section
variable {X : Cx} {K : PySem.W.Frag} {A : Am S} {o e f : Expr} {apos cpos : Pos} {wa wb wc : WE S}
/-- o.get(e, f) -/
theorem d_get2D (hu : X.A.units + 1 < cLine) (ho : PE X o (tE K A wa)) (he : PE X e (tE K A wb)) (hf : PE X f (tE K A wc)) (m : M2 X o "get" apos e f cpos) : PE X (.Call (.Attribute o "get" apos) [e, f] [] cpos) (tE K A (wGet2 wa wb wc)) :=
  PE.imp (pe_dget2 hu ho he hf m) fun σ H Q ⟨F, H0, O, τ, st, q⟩ => bindE st q fun H1 v O1 d τ1 s1 k1 x1 ⟨⟨ps, ed⟩, q1⟩ => by
    subst ed
    cases x1 with
    | @dct a kvs _ h1 h2 =>
      refine ⟨a, rfl, .inr ⟨kvs, .inl (hidP_less _ _ h1)⟩, bindE s1 q1 fun H2 y O2 e τ2 s2 k2 x2 q2 => bindE s2 q2 fun H3 z O3 x τ3 s3 k3 x3 q3 => ?_⟩
      obtain ⟨r, hr, q4⟩ := some_of q3
      unfold getD2 at hr
      split at hr
      · rename_i ps' ks e1 e2
        cases e1
        cases hr
        have x1' : DX K (hidP (hidn F O3 τ3.1) H3) (.ref a) (.dct ps) := ((DX.dct h1 h2).same k2).same k3
        cases x1' with
        | @dct _ kvs2 _ g1 g2 =>
          have kx : ∃ b vs, y = .ref b ∧ H3 b = some (.tup vs) ∧ vs = ks.map kV := by
            cases e with
            | tup ds =>
              cases x2.same k3 with
              | tup t1 t2 t3 => exact ⟨_, _, rfl, hidP_less _ _ t1, keyDs_v t3 e2⟩
            | _ => cases e2
          obtain ⟨b, vs, rfl, hb, rfl⟩ := kx
          refine ⟨valV kvs2 ks, DGet.t (hidP_less _ _ g1) hb, ?_⟩
          have w := valD_x ks g2
          generalize valV kvs2 ks = ov at w ⊢
          generalize valD ps ks = od at w q4
          cases w with
          | none => exact q4 H3 z O3 s3 ((k1.trans k2).trans k3) x3
          | some xx => exact q4 H3 _ O3 s3 ((k1.trans k2).trans k3) xx
      · cases hr
end
end DL
/-! part DL19 -/
/-! ### functions as values: lambdas -/
namespace DL
open PySem PySem.Spec PyProof.Rows L2 My LamX NdefX
/-- what captured cells hold stays through frames that aren't theirs -/
theorem cells_un {fs : List Addr} {H H1 : Hp} {h h1 : Heap} {cl : List (Str × Addr)} {fr : List Str} {ws : List (Option V)} (C : CellsAt cl fr ws h H) (u : Un fs [] H H1 h h1) : CellsAt cl fr ws h1 H1 := by
  have kp : ∀ {c : Addr} {v : Option Value}, H c = none → h.IsCell c v → h1.IsCell c v := fun {c v} n ⟨o, ho, hd⟩ => by
    obtain ⟨sl, q⟩ := u.any ho n (by simp)
    exact ⟨_, q, hd⟩
  refine ⟨C.len, fun y c e => ?_, C.inj, fun i y e => ?_⟩
  · obtain ⟨n, v, z⟩ := C.all y c e
    obtain ⟨o, ho, hd⟩ := z
    exact ⟨u.free c o ho n (by simp), v, kp n ⟨o, ho, hd⟩⟩
  · obtain ⟨c, hc, hv⟩ := C.has i y e
    refine ⟨c, hc, fun v ev => ?_⟩
    obtain ⟨x, r, z⟩ := hv v ev
    exact ⟨x, r, kp (C.all y c hc).1 z⟩
/-- the object of the lambda F with this body is at f -/
def LamAt (h : Heap) (f : Addr) (F : NF) (body : Expr) : Prop := ∃ pm ctv, h.get? f = some (PySem.W.kla_obj F.name F.qual F.params body F.scope F.cl pm F.c ctv)
/-- the promise of a lambda -/
structure LamOk (P : Program) (w : World) (K : PySem.W.Frag) (mg : Str → Option Value) (base : Heap) (k : Nat) (f : Addr) (F : NF) (body : Expr) (ps fr : List Str) (sp : List (Option V) → Sp) : Prop where
  len : ∀ ws vs H Q E, sp ws vs H Q E → vs.length = ps.length
  run : ∀ (A : Around) (outer : List Env) (s : Shared) (H : Hp) (us : List Value) (vs : List V) (ws : List (Option V)) (Q : VK), Room k A → Env0 P w K mg base A outer s H → LamAt s.heap f F body → H F.c = some (CodeO F.c F.qual) →
    CellsAt F.cl fr ws s.heap H → Vals vs us → sp ws vs H Q E0 → codeAny (model P w) A (.call (.ref f) ⟨us, []⟩) (CR CX0 outer P w H s Q E0) s
section
variable {P : Program} {w : World} {K : PySem.W.Frag} {mg : Str → Option Value} {base : Heap} {N ps fr : List Str} {F : NF} {f : Addr} {body : Expr} {k : Nat} {sp : List (Option V) → Sp}
theorem lam_ok (S : NScope N ps fr F.scope) (hb : ∀ (pm ctv : Value) (us : List Value), us.length = ps.length → bindArgs (PySem.W.kla_fn F.name F.qual F.params body F.scope F.cl pm (.ref F.c) ctv) ⟨us, []⟩ = pure (ps.zip us)) (len : ∀ ws vs H Q E, sp ws vs H Q E → vs.length = ps.length)
    (hbody : ∀ (A : Around) (outer : List Env) (s : Shared) (H : Hp) (vs : List V) (ws : List (Option V)) (Q : VK), Room k (A.deeper (envF F f s.heap.objs.size)) → ws.length = fr.length → sp ws vs H Q E0 →
      ∃ t, PE (ncx CX0 P w K mg base N F f A outer s H E0).nox body t ∧ t (startF N vs ws) H Q) : LamOk P w K mg base (k + 1) f F body ps fr sp := by
  refine ⟨len, fun A outer s H us vs ws Q hr e0 hf hc C r hsp => ?_⟩
  have hl := len _ _ _ _ _ hsp
  have lim : s.heap.NoLimit := e0.mod.nolimit.keeps fun b o e => (e0.bs b o e).1
  obtain ⟨pm, ctv, ho⟩ := hf
  refine PySem.W.kla_callFunE hr.depth ho rfl S.co S.gen rfl (codeO_at e0.hok hc) ?_
  rw [hb pm ctv us (by rw [← r.length]; exact hl)]
  refine wpAny_pure (wpAny_newFunctionEnv S.nocell (fun ⟨n, _⟩ hy => S.par n (List.of_mem_zip hy).1) (fun h₁ hns hsb => ⟨lim.fresh _ hsb, ?_⟩) S.kind)
  show codeAny _ _ (.expr body (envF F f s.heap.objs.size)) _ _
  have kp : ∀ b o, s.heap.get? b = some o → h₁.get? b = some o := fun b o e => hsb.extBut b o (Nat.ne_of_lt (Heap.lt_size e)) (Heap.get?_push_of_some _ e)
  obtain ⟨t, ht, hq⟩ := hbody A outer s H vs ws Q (hr.deeper _) C.len hsp
  have I : Inv (ncx CX0 P w K mg base N F f A outer s H E0) [] (startF N vs ws) H { s with heap := h₁, toks := s.toks + (ps.zip us).length } := inv_startN S hr.hd e0 hl r C hns kp
  refine PySem.W.kla_codeExpr (wpAny_mono (ht.nox.run [] _ (startF N vs ws) H Q I hq) (fun v s' hs => ?_) fun e s' hs => hs)
  obtain ⟨w', H', J, rv, q⟩ := hs
  exact ⟨w', H', J.os, J.bare, J.base, J.hok, rv, q⟩
end
section
variable {P : Program} {w : World} {K : PySem.W.Frag} {mg : Str → Option Value} {base : Heap} {Ng ps fr : List Str} {F : NF} {f g : Addr} {body : Expr} {k j i : Nat} {sp : List (Option V) → Sp} {qual x : Str} {scope : Scope} {cd : Value} {A : Around} {outer : List Env} {s0 : Shared} {H0 : Hp} {ws : List (Option V)} {t : TA} {e : Expr} {es : List Expr} {p pos : Pos}
/-- x(e, ..) in a def that got the lambda -/
theorem pe_lamN (Fn : LamOk P w K mg base k f F body ps fr sp) (h0 : LamAt s0.heap f F body) (hn : H0 f = none) (hfr : f ∉ frs outer) (C : CellsAt F.cl fr ws s0.heap H0)
    (hr : Room j (cxOf CX0 P w K mg base Ng qual scope g cd A outer s0 H0 E0).A) (hk : k ≤ j) (hN : Ng[i]? = some x) (hv : Vis scope x) (ha : PA (cxOf CX0 P w K mg base Ng qual scope g cd A outer s0 H0 E0).nox (e :: es) t)
    (hd : (x == ("__debug__" : Str)) = false := by decide) (hcd : (x == ("__classdict__" : Str)) = false := by decide)
    (he : starEach (e :: es) (cxOf CX0 P w K mg base Ng qual scope g cd A outer s0 H0 E0).nox.env = (false, eval e (cxOf CX0 P w K mg base Ng qual scope g cd A outer s0 H0 E0).nox.env) :: starEach es (cxOf CX0 P w K mg base Ng qual scope g cd A outer s0 H0 E0).nox.env := by rfl)
    (hpl : (backTo pos (starEach es (cxOf CX0 P w K mg base Ng qual scope g cd A outer s0 H0 E0).nox.env)).any (·.1) = false := by rfl) :
    PE (cxOf CX0 P w K mg base Ng qual scope g cd A outer s0 H0 E0).nox (.Call (.Name x p) (e :: es) [] pos) (fun σ H Q => σ[i]? = some (some (.ref f)) ∧ t σ H fun vs H1 => H1 F.c = some (CodeO F.c F.qual) ∧ sp ws vs H1 Q E0) := by
  refine ⟨fun pins s σ H Q I h => ?_⟩
  obtain ⟨hs, ht⟩ := h
  have at_ : ∀ {pins' : List (Addr × Obj)} {σ' : L2.St} {H' : Hp} {s' : Shared}, Inv (cxOf CX0 P w K mg base Ng qual scope g cd A outer s0 H0 E0).nox pins' σ' H' s' → LamAt s'.heap f F body ∧ CellsAt F.cl fr ws s'.heap H' := fun {pins' σ' H' s'} J => by
    obtain ⟨pm, ctv, ho⟩ := h0
    have un : Un (frs outer) [] H0 H' s0.heap s'.heap := J.base
    exact ⟨⟨pm, ctv, un.keep f _ ho hn hfr (by simp)⟩, cells_un C un⟩
  refine wpAny_Call_Name_kw (thn ((pe_var (pos := p) (i := i) hN hv hd hcd).run pins s σ H (fun v H1 => v = .ref f ∧ H1 = H) I ⟨.ref f, hs, rfl, rfl⟩) fun u s1 ⟨v, H1, I1, r1, q1⟩ => ?_)
  obtain ⟨ev, eH⟩ := q1
  subst ev
  rw [eH] at I1
  obtain rfl : u = Value.ref f := r1
  obtain ⟨⟨pm1, ct1, of1⟩, _⟩ := at_ I1
  refine PySem.W.callWith_F (first := []) ⟨_, _, _, _, of1⟩ (thn (ha.run pos pins s1 σ H _ I1 ht) fun us s2 ⟨vs, H2, I2, r, h1, q⟩ => ?_) he hpl
  obtain ⟨la2, C2⟩ := at_ I2
  refine ⟨(by obtain ⟨pm2, ct2, of2⟩ := la2; exact ⟨_, _, _, _, of2⟩), ?_⟩
  show wpAny _ _ (call (.ref f) us) _ _ _
  refine wpAny_call (codeAny_mono (Fn.run _ _ s2 H2 us vs ws _ (hr.mono hk) I2.env0 la2 h1 C2 r q) fun r s' hq => ?_)
  cases r with
  | error e => exact (show False from hq).elim
  | ok fl =>
    cases fl with
    | ret u => exact I2.after hq
    | next => exact False.elim hq
    | brk => exact False.elim hq
    | cont => exact False.elim hq
end
end DL
/-! part DL20 -/
namespace DL
open PySem PySem.Spec PyProof.Rows L2 My LamX NdefX
/-! ### a lambda made: all but its maker's table stays -/
/-- all stands but what is at P -/
def ButP (P : Addr) (H H' : Hp) : Prop := ∀ b o, b ≠ P → H b = some o → H' b = some o
theorem ButP.trans {P : Addr} {H H1 H2 : Hp} (x : ButP P H H1) (y : ButP P H1 H2) : ButP P H H2 := fun b o n e => y b o n (x b o n e)
theorem tab_ne {H : Hp} {P c : Addr} {q q' : Str} (t : TabS H P q) (e : H c = some (CodeO c q')) : c ≠ P := fun z => by
  obtain ⟨ps, h, _⟩ := t
  rw [z, h] at e
  exact codeO_ne ps (Option.some.inj e).symm
section
variable {X : Cx} {pins : List (Addr × Obj)} {σ : L2.St} {H : Hp} {s : Shared}
abbrev lamF (X : Cx) (params : Arguments) (scope : Scope) (c' : Addr) : NF := ⟨"<lambda>", X.env.qual ++ "<lambda>", params, [], scope, cloFrom X.env.cells scope.names [], c'⟩
theorem lam_mk {c P : Addr} {params : Arguments} {body : Expr} {scope : Scope} {pos : Pos} {E Q : Value → Shared → Prop} (I : Inv X pins σ H s) (TB : TabB X.base X.mg c P) (hcode : X.env.code = .ref c) (hT : TabS H P (X.env.qual ++ "<lambda>"))
    (hdef : defaultsOf params X.env = ([], [])) (hfree : ∀ y ∈ scope.names, y.2 = .free → ∃ c, X.env.cells.lookup y.1 = some c)
    (k : ∀ (f c' : Addr) (o : Obj) (H1 : Hp) (s' : Shared), Inv X ((f, o) :: pins) σ H1 s' → ButP P H H1 → TabS H1 P (X.env.qual ++ "<lambda>") → (∃ pm ctv, o = PySem.W.kla_obj "<lambda>" (X.env.qual ++ "<lambda>") params body scope (cloFrom X.env.cells scope.names []) pm c' ctv) →
      f ∉ frs X.stack → H1 c' = some (CodeO c' (X.env.qual ++ "<lambda>")) → Q (.ref f) s') :
    wpAny (model X.prog X.w) X.A (eval (.Lambda params body scope pos) X.env) Q E s := by
  obtain ⟨ps, hP, htr, hall⟩ := hT
  have notfr : ∀ f, s.heap.objs.size ≤ f → f ∉ frs X.stack := fun f hf z => (List.mem_cons.mp (I.stkSub _ z)).elim (fun e => absurd I.lt (by rw [← e]; exact Nat.not_lt.mpr hf)) (I.nofs hf)
  have fin : ∀ (f c' : Addr) (pm ctv : Value) (H1 : Hp) (s' : Shared), Inv X pins σ H1 s' → ButP P H H1 → TabS H1 P (X.env.qual ++ "<lambda>") → s'.heap.get? f = some (PySem.W.kla_obj "<lambda>" (X.env.qual ++ "<lambda>") params body scope (cloFrom X.env.cells scope.names []) pm c' ctv) →
      H1 f = none → s.heap.objs.size ≤ f → H1 c' = some (CodeO c' (X.env.qual ++ "<lambda>")) → Q (.ref f) s' := fun f c' pm ctv H1 s' J b t e n l ec => by
    refine k f c' _ H1 s' (J.pins_of fun p hp => ?_) b t ⟨pm, ctv, rfl⟩ (notfr f l) ec
    rcases List.mem_cons.mp hp with rfl | hp
    · refine ⟨e, n, fun z => ?_, I.nofs l, fun v z => nomatch z⟩
      have z : f = X.env.locals := z
      have l2 := I.lt
      rw [← z] at l2
      exact Nat.lt_irrefl _ (Nat.lt_of_lt_of_le l2 l)
    · exact J.pin p (List.mem_append_right _ hp)
  have bm : s.heap.BuiltinsAt X.mg P := TB.bm.keeps I.bk
  have hPs : s.heap.get? P = some { cls := .none, data := .fields ps } := I.hok P _ hP
  refine PySem.W.kla_eval hdef ?_
  cases hcod : codeAmong pos ps.toList with
  | some cv =>
    obtain ⟨c', rfl, hco⟩ := hall pos cv hcod
    refine PySem.W.kla_makeFunctionHit (mg := X.mg) (c := c) (P := P) (ps := ps) (closure_ok hfree) I.ok.glob (I.mod.glob.keeps I.bk) hcode (TB.code.keeps I.bk) hPs htr hcod bm fun ctv h' tk hx hsz => ?_
    exact fin h'.objs.size c' _ ctv H _ (I.kept fun b o e => Heap.get?_push_of_some _ (hx b o e)) (fun b o _ e => e) ⟨ps, hP, htr, hall⟩ (Heap.get?_push_size _ rfl) (I.hok.fresh hsz) hsz hco
  | none =>
    refine PySem.W.kla_makeFunction (mg := X.mg) (c := c) (P := P) (ps := ps) (closure_ok hfree) I.ok.glob (I.mod.glob.keeps I.bk) hcode (TB.code.keeps I.bk) hPs htr hcod TB.gP bm fun c' ctv h' tk hx hge hlt hrec htb => ?_
    obtain ⟨c2, oc, vs, t, e2, hoc, hd, hv⟩ := hrec
    cases e2
    have hsz : s.heap.objs.size ≤ h'.objs.size := Nat.le_trans hge (Nat.le_of_lt hlt)
    have nc : H c' = none := I.hok.fresh hge
    have cP : P ≠ c' := ne_of_none hP nc
    have at' : ∀ b o, b ≠ P → H b = some o → upd (upd H P (.tbl (ps ++ #[rawInt pos.line, rawInt pos.col, .ref c']))) c' (CodeO c' (X.env.qual ++ "<lambda>")) b = some o := fun b o n e => by
      rw [upd_ne (ne_of_none e nc), upd_ne n, e]
    refine fin h'.objs.size c' ((X.mg "__name__").getD .none) ctv _ _ (inv_table (t' := tk) (h' := h'.push (PySem.W.kla_obj "<lambda>" (X.env.qual ++ "<lambda>") params body scope (cloFrom X.env.cells scope.names []) ((X.mg "__name__").getD .none) c' ctv)) I hP
      (fun b o hb e => Heap.get?_push_of_some _ (hx b o hb e)) (Heap.get?_push_of_some _ htb) hge ⟨oc, vs, t, Heap.get?_push_of_some _ hoc, hd, hv⟩) at' ?_ (Heap.get?_push_size _ rfl) ?_ hsz upd_same
    · refine ⟨_, by rw [upd_ne cP, upd_same], ?_, fun p' cv hcv => ?_⟩
      · simp only [Array.toList_append]
        exact PySem.TriplesOk_snoc _ _ _ _ htr
      · simp only [Array.toList_append] at hcv
        rcases among_app _ htr hcv with z | z
        · obtain ⟨c0, e1, e2⟩ := hall p' cv z
          exact ⟨c0, e1, at' _ _ (tab_ne ⟨ps, hP, htr, hall⟩ e2) e2⟩
        · exact ⟨c', z, upd_same⟩
    · rw [upd_ne (Nat.ne_of_gt hlt), upd_ne (Nat.ne_of_gt (Nat.lt_of_lt_of_le (Heap.lt_size hPs) hsz))]
      exact I.hok.fresh hsz
end
/-! ### states: tables; what lambdas see -/
/-- a pointer -/
abbrev ptrB (a : Addr) : Stab := ⟨fun _ b => b = a, fun _ _ _ _ h => h⟩
abbrev Dt.ptr (a : Addr) : Dt := .sp (ptrB a)
theorem DX.ptrI {K : PySem.W.Frag} {H : Hp} {v : V} {a : Addr} (x : DX K H v (.ptr a)) : v = .ref a := by
  cases x with
  | sp h => rw [show _ = a from h]
theorem hd_code {c : Addr} {q : Str} : ¬ Hd (CodeO c q) := fun h => by
  unfold CodeO at h
  exact h
/-- the tables of code objects, seen beside P -/
structure TabV (P : Addr → Prop) (H : Hp) (p : Addr × Str) : Prop where
  tab : TabS H p.1 p.2
  vis : ∀ c q, H c = some (CodeO c q) → ¬ P c
  vis1 : ¬ P p.1
/-- the tables of code objects -/
def AmT (T : List (Addr × Str)) : Am Unit where
  at_ _ P H := ∀ p ∈ T, ¬ P p.1 ∧ ∃ ps : Array Value, H p.1 = some (.tbl ps) ∧ TriplesOk ps.toList ∧ ∀ (pos : Pos) (cv : Value), codeAmong pos ps.toList = some cv → ∃ c, cv = .ref c ∧ H c = some (CodeO c p.2) ∧ ¬ P c
  foot _ := False
  tab b := ∃ q, (b, q) ∈ T
  has _ _ _ _ _ h := h.elim
  hasT _ P H a h := fun ⟨q, m⟩ => by
    obtain ⟨_, ps, e, _⟩ := h _ m
    exact ⟨ps, e⟩
  move _ P P' H H' h k _ := fun p hp => by
    obtain ⟨n, ps, h1, h2, h3⟩ := h p hp
    obtain ⟨n', h1'⟩ := k _ _ h1 n
    refine ⟨n', ps, h1', h2, fun pos cv hc => ?_⟩
    obtain ⟨c, e1, e2, e3⟩ := h3 pos cv hc
    obtain ⟨n2, e4⟩ := k _ _ e2 e3
    exact ⟨c, e1, e4, n2⟩
theorem AmT.tab {T : List (Addr × Str)} {s : Unit} {P : Addr → Prop} {H : Hp} (h : (AmT T).at_ s P H) {p : Addr × Str} (hp : p ∈ T) : TabS H p.1 p.2 := by
  obtain ⟨_, ps, h1, h2, h3⟩ := h p hp
  refine ⟨ps, h1, h2, fun pos cv hc => ?_⟩
  obtain ⟨c, e1, e2, _⟩ := h3 pos cv hc
  exact ⟨c, e1, e2⟩
/-- captured data and code objects, beside another state -/
def AmC {S : Type} (A : Am S) (K : PySem.W.Frag) (us : List V) (ds : List Dt) (cs : List (Addr × Str)) : Am S where
  at_ s P H := A.at_ s P H ∧ DXs K (hidP P H) us ds ∧ ∀ p ∈ cs, ¬ P p.1 ∧ H p.1 = some (CodeO p.1 p.2)
  foot := A.foot
  tab := A.tab
  has s P H a h := A.has s P H a h.1
  hasT s P H a h := A.hasT s P H a h.1
  move s P P' H H' h k f := ⟨A.move s P P' H H' h.1 k f, h.2.1.same k.same, fun p hp => k _ _ (h.2.2 p hp).2 (h.2.2 p hp).1⟩
/-- .. as a callee's state -/
def Lens.ofC {S : Type} (A : Am S) (K : PySem.W.Frag) (us : List V) (ds : List Dt) (cs : List (Addr × Str)) : Lens (AmC A K us ds cs) A where
  get s := s
  put _ s := s
  at_ _ _ _ h := h.1
  foot _ h := h
  tab _ h := h
  back s s' P P' H H' h h' e f k := by
    have kp : ∀ b o, H b = some o → ¬ P b → ¬ A.tab b → H' b = some o := fun b o z n t => e b o z (fun g => n (f b g)) t
    refine ⟨h', h.2.1.same (hidP_same fun b o z nt n => ⟨k b o z n, kp b o z n fun t => ?_⟩), fun p hp => ?_⟩
    · obtain ⟨ps, z2⟩ := A.hasT _ _ _ _ h.1 t
      rw [z] at z2
      cases z2
      exact nt _ rfl
    · obtain ⟨n1, e1⟩ := h.2.2 p hp
      refine ⟨k _ _ e1 n1, kp _ _ e1 n1 fun t => ?_⟩
      obtain ⟨ps, z2⟩ := A.hasT _ _ _ _ h.1 t
      rw [e1] at z2
      exact codeO_ne ps (Option.some.inj z2)
end DL
/-! part DL21 -/
namespace DL
open PySem PySem.Spec PyProof.Rows L2 My LamX NdefX
section
variable {S : Type}
/-! ### a lambda's body -/
theorem startF_get {N : List Str} {vs cus : List V} {i : Nat} {v : V} (h : (vs ++ cus)[i]? = some v) : (startF N vs (cus.map some))[i]? = some (some v) := by
  have l := (List.getElem?_eq_some_iff.mp h).1
  unfold startF
  rw [← List.append_assoc, ← List.map_append, List.getElem?_append_left (by rw [List.length_map]; exact l), List.getElem?_map, h]
  rfl
theorem startF_len {N : List Str} {vs cus : List V} (h : (vs ++ cus).length ≤ N.length) : (startF N vs (cus.map some)).length = N.length := by
  unfold startF
  rw [List.length_append] at h
  rw [List.length_append, List.length_map, List.length_append, List.length_replicate, List.length_map]
  omega
theorem d_startF {K : PySem.W.Frag} {A : Am S} {n m : Nat} {wf : WF S} {w : WE S} {N : List Str} {vs cus : List V} {cds : List Dt} {H : Hp} {Q : VK} {E : XK} (h : spD K A n wf vs H Q E) (hN : N.length = n + (cus.length + m))
    (hc : ∀ (s : S) (F : Addr → Prop) (H : Hp), A.at_ s F H → DXs K (hidP F H) cus cds)
    (hw : ∀ ds s (k : Rs → S → Prop), ds.length = n → wf.f ds s k → w.f (ent (ds ++ cds) m, s) fun d τ' => k (.rt d) τ'.2) : tE K A w (startF N vs (cus.map some)) H Q := by
  obtain ⟨F, s, ds, l, am, fin, fex, x, q⟩ := h
  have ld : ds.length = n := by rw [← x.len, l]
  have hh : ∀ b, hidn F (fun _ => 0) (ent (ds ++ cds) m) b ↔ F b := fun b => ⟨fun z => by
    rcases z with z | ⟨i, es, z, _⟩
    · exact z
    · exact (ent_own z).elim, .inl⟩
  have kp : Kp F H (hidn F (fun _ => 0) (ent (ds ++ cds) m)) H := fun b o e n => ⟨fun z => n ((hh b).mp z), e⟩
  have sh := kp.same
  have xc := hc s F H am
  have x2 := x.append xc
  refine ⟨F, H, fun _ => 0, (ent (ds ++ cds) m, s), ⟨A.move _ _ _ _ _ am kp fun _ _ e _ => e, ⟨s, _, am⟩, fin, fex, fun b o e _ _ => e, fun i d h => ?_, fun i es h => (ent_own h).elim, fun i j es fs h => (ent_own h).elim, ?_⟩, w.mono _ _ _ (fun d τ' h => ?_) (hw ds s _ ld q)⟩
  · obtain ⟨v, h1, h2⟩ := (x2.same sh).at_ (ent_dat h)
    exact ⟨v, startF_get h1, h2⟩
  · show (ent (ds ++ cds) m).length = _
    have lc := xc.len
    rw [startF_len (by rw [List.length_append]; omega)]
    unfold ent
    rw [List.length_append, List.length_map, List.length_replicate, List.length_append]
    omega
  · exact fun H' v O' s1 _ x => h H' v (A.move _ _ _ _ _ s1.am (fun b o e n => ⟨fun z => n (.inl z), e⟩) fun _ _ e _ => e) s1.ev (x.same hidn_F)
/-! ### a lambda called -/
def wCallV (A : Am S) (i : Nat) (f : Addr) (wf : WF S) (a : WA S) : WE S := ⟨fun τ k => τ.1[i]? = some (.dat (.ptr f)) ∧ (wCall (Lens.id A) wf a).f τ k, fun τ k k' m h => ⟨h.1, (wCall (Lens.id A) wf a).mono _ _ _ m h.2⟩⟩
section
variable {P : Program} {w : World} {K : PySem.W.Frag} {mg : Str → Option Value} {base : Heap} {Ng ps fr : List Str} {F : NF} {f g : Addr} {body : Expr} {k j i n : Nat} {qual x : Str} {scope : Scope} {cd : Value} {Ar : Around} {outer : List Env} {s0 : Shared} {H0 : Hp} {ws : List (Option V)} {e : Expr} {es : List Expr} {p pos : Pos} {A : Am S} {wf : WF S} {wa : WA S}
theorem d_lamN (Fn : LamOk P w K mg base k f F body ps fr fun ws' vs H Q E => ws' = ws ∧ spD K A n wf vs H Q E) (h0 : LamAt s0.heap f F body) (hn : H0 f = none) (hfr : f ∉ frs outer) (C : CellsAt F.cl fr ws s0.heap H0)
    (hr : Room j (cxOf CX0 P w K mg base Ng qual scope g cd Ar outer s0 H0 E0).A) (hk : k ≤ j) (hc : ∀ s P H, A.at_ s P H → H F.c = some (CodeO F.c F.qual)) (hN : Ng[i]? = some x) (hv : Vis scope x) (ha : PA (cxOf CX0 P w K mg base Ng qual scope g cd Ar outer s0 H0 E0).nox (e :: es) (tAs K A wa)) (hl1 : (e :: es).length = n)
    (hl : ∀ τ k, wa.f τ k → wa.f τ fun ds τ1 => ds.length = (e :: es).length ∧ k ds τ1)
    (hd : (x == ("__debug__" : Str)) = false := by decide) (hcd : (x == ("__classdict__" : Str)) = false := by decide)
    (he : starEach (e :: es) (cxOf CX0 P w K mg base Ng qual scope g cd Ar outer s0 H0 E0).nox.env = (false, eval e (cxOf CX0 P w K mg base Ng qual scope g cd Ar outer s0 H0 E0).nox.env) :: starEach es (cxOf CX0 P w K mg base Ng qual scope g cd Ar outer s0 H0 E0).nox.env := by rfl)
    (hpl : (backTo pos (starEach es (cxOf CX0 P w K mg base Ng qual scope g cd Ar outer s0 H0 E0).nox.env)).any (·.1) = false := by rfl) :
    PE (cxOf CX0 P w K mg base Ng qual scope g cd Ar outer s0 H0 E0).nox (.Call (.Name x p) (e :: es) [] pos) (tE K A (wCallV A i f wf wa)) :=
  PE.imp (pe_lamN Fn h0 hn hfr C hr hk hN hv ha hd hcd he hpl) fun σ H Q ⟨F', H0', O, τ, st, hi, q⟩ => by
    obtain ⟨v, hv, hx⟩ := st.dat _ _ hi
    refine ⟨by rw [hv, hx.ptrI], bindA st (hl _ _ q) fun H1 vs O1 ds τ1 s1 k1 x1 ⟨l1, q1⟩ => ⟨hc _ _ _ s1.am, rfl, ?_⟩⟩
    exact ask (L := Lens.id A) s1 x1 (by rw [x1.len, l1, hl1]) (wf.mono _ _ _ _ (ansK_mono fun d s' h H' v O' s2 k2 x2 => h H' v O' s2 (k1.trans k2) x2) q1)
end
end
/-! ### g(e, lambda .., lambda ..) -/
section
variable {X : Cx} {x a1 a2 a3 : Str} {g c P : Addr} {fd : FuncData} {st : Stmt} {Ng fr1 fr2 : List Str} {k : Nat} {pr1 pr2 : Arguments} {b1 b2 e0 : Expr} {sc1 sc2 : Scope} {lp1 lp2 p pos : Pos} {js1 js2 : List Nat} {t0 : TE} {R : L2.St → V → Addr → Addr → Addr → Addr → Hp → VK → Prop}
/-- a lambda stands there, with what it captured -/
structure LamHere (X : Cx) (σ : L2.St) (s : Shared) (H : Hp) (pr : Arguments) (b : Expr) (sc : Scope) (fr : List Str) (js : List Nat) (f c' : Addr) : Prop where
  at_ : LamAt s.heap f (lamF X pr sc c') b
  none : H f = Option.none
  nfr : f ∉ frs X.stack
  cells : CellsAt (cloFrom X.env.cells sc.names []) fr (js.map (slotAt σ)) s.heap H
  code : H c' = some (CodeO c' (X.env.qual ++ "<lambda>"))
/-- how a lambda's captured names lie to its maker's -/
structure LamFree (X : Cx) (sc : Scope) (fr : List Str) (js : List Nat) : Prop where
  free : ∀ y ∈ sc.names, y.2 = .free → X.env.scope.names.lookup y.1 = some .cell ∨ X.env.scope.names.lookup y.1 = some .free
  inn : ∀ y ∈ fr, (y, NameKind.free) ∈ sc.names
  js : js.map (fun j => X.N[j]?) = fr.map some
theorem LamFree.has {sc : Scope} {fr : List Str} {js : List Nat} (L : LamFree X sc fr js) (ok : X.Ok) : ∀ y ∈ sc.names, y.2 = .free → ∃ c, X.env.cells.lookup y.1 = some c := fun y hy e => (L.free y hy e).elim (fun z => ok.has _ (.inl z)) fun z => ok.has _ (.inr z)
theorem pe_call2L (hg : Gl X x) (hm : X.mg x = some (.ref g)) (Fg : Fun X.K x x st g fd) (Sg : FnScope Ng [a1, a2, a3] (defScope st)) (hb : Binds X.K fd [a1, a2, a3] []) (TB : TabB X.base X.mg c P) (hcode : X.env.code = .ref c) (hr : Room (k + 1) X.A)
    (La : LamFree X sc1 fr1 js1) (Lb : LamFree X sc2 fr2 js2) (hd1 : defaultsOf pr1 X.env = ([], [])) (hd2 : defaultsOf pr2 X.env = ([], [])) (h0 : PE X e0 t0)
    (hbody : ∀ (σ : L2.St) (f1 c1 f2 c2 : Addr) (s : Shared) (H : Hp) (v0 : V) (Q : VK) (cdv : Value), LamHere X σ s H pr1 b1 sc1 fr1 js1 f1 c1 → LamHere X σ s H pr2 b2 sc2 fr2 js2 f2 c2 → Room k (X.A.deeper (envOfC x (defScope st) s.heap.objs.size g cdv)) → R σ v0 f1 c1 f2 c2 H Q →
      ∃ t, PSs (cxOf CX0 X.prog X.w X.K X.mg X.base Ng x (defScope st) g cdv X.A X.stack s H E0).nox (defBody st) t ∧ t { nx := fun _ H' => Q .non H', rt := Q } (L2.start Ng [v0, .ref f1, .ref f2]) H)
    (hdb : (x == ("__debug__" : Str)) = false := by decide)
    (he : starEach (e0 :: [.Lambda pr1 b1 sc1 lp1, .Lambda pr2 b2 sc2 lp2]) X.env = (false, eval e0 X.env) :: starEach [.Lambda pr1 b1 sc1 lp1, .Lambda pr2 b2 sc2 lp2] X.env := by rfl) (hpl : (backTo pos (starEach [.Lambda pr1 b1 sc1 lp1, .Lambda pr2 b2 sc2 lp2] X.env)).any (·.1) = false := by rfl) :
    PE X (.Call (.Name x p) [e0, .Lambda pr1 b1 sc1 lp1, .Lambda pr2 b2 sc2 lp2] [] pos) (fun σ H Q => t0 σ H fun v0 H1 => TabS H1 P (X.env.qual ++ "<lambda>") ∧ ∀ f1 c1 f2 c2 H3, ButP P H1 H3 → TabS H3 P (X.env.qual ++ "<lambda>") → H3 c1 = some (CodeO c1 (X.env.qual ++ "<lambda>")) → H3 c2 = some (CodeO c2 (X.env.qual ++ "<lambda>")) → R σ v0 f1 c1 f2 c2 H3 Q) := by
  refine ⟨fun pins s σ H Q I h => ?_⟩
  obtain ⟨oc, od, kV, doc, pm, an, cdv, ct, osl, rfl, lk, hcd⟩ := Fg.ex
  refine wpAny_Call_Name_kw (ld_glob I hg hm ?_ hdb)
  refine PySem.W.callWith_K (h₀ := X.base) I.ok.mod.kin Fg.kp ?_ he hpl
  rw [he]
  show wpAny _ _ (spliced ((false, eval e0 X.env) :: backTo pos (starEach [.Lambda pr1 b1 sc1 lp1, .Lambda pr2 b2 sc2 lp2] X.env))) _ _ s
  refine Calls.spliced_cons (thn (h0.run pins s σ H _ I h) fun u0 s1 ⟨v0, H1, I1, r0, hT, q⟩ => ?_)
  refine Calls.spliced_cons (lam_mk I1 TB hcode hT hd1 (La.has I1.ok) fun f1 c1 o1 H2 s2 I2 B2 T2 e1 n1 k1 => ?_)
  refine Calls.spliced_cons (lam_mk I2 TB hcode T2 hd2 (Lb.has I2.ok) fun f2 c2 o2 H3 s3 I3 B3 T3 e2 n2 k2 => ?_)
  refine Calls.spliced_nil ⟨I3.kIn, ?_⟩
  have k1' : H3 c1 = some (CodeO c1 (X.env.qual ++ "<lambda>")) := B3 _ _ (tab_ne T2 k1) k1
  have pa := I3.pin (f2, o2) (List.mem_append_right _ List.mem_cons_self)
  have pb := I3.pin (f1, o1) (List.mem_append_right _ (List.mem_cons_of_mem _ List.mem_cons_self))
  have lh1 : LamHere X σ s3 H3 pr1 b1 sc1 fr1 js1 f1 c1 := by
    obtain ⟨pm1, ct1, rfl⟩ := e1
    exact ⟨⟨pm1, ct1, pb.1⟩, pb.2.1, n1, cells_of I3 (Caps.made I3.ok La.free La.inn La.js), k1'⟩
  have lh2 : LamHere X σ s3 H3 pr2 b2 sc2 fr2 js2 f2 c2 := by
    obtain ⟨pm2, ct2, rfl⟩ := e2
    exact ⟨⟨pm2, ct2, pa.1⟩, pa.2.1, n2, cells_of I3 (Caps.made I3.ok Lb.free Lb.inn Lb.js), k2⟩
  have I4 : Inv X pins σ H3 s3 := I3.pins_of fun p hp => I3.pin p (List.mem_append_right _ (List.mem_cons_of_mem _ (List.mem_cons_of_mem _ hp)))
  have rv : Vals [v0, .ref f1, .ref f2] [u0, .ref f1, .ref f2] := .cons r0 (.cons rfl (.cons rfl .nil))
  have rc : codeAny (model X.prog X.w) X.A (.call (.ref g) ⟨[u0, .ref f1, .ref f2], []⟩) (CR CX0 X.stack X.prog X.w H3 s3 Q E0) s3 := by
    refine run_ofS (N := Ng) (ps := [a1, a2, a3]) (us := [u0, .ref f1, .ref f2]) lk hcd Sg hr I4.env0 (by have z := hb s3 [u0, .ref f1, .ref f2] I4.kIn rfl; exact z) rv rfl fun hr' => ?_
    obtain ⟨t, ht, hq⟩ := hbody σ f1 c1 f2 c2 s3 H3 v0 Q cdv lh1 lh2 hr' (q f1 c1 f2 c2 H3 (B2.trans B3) T3 k1' k2)
    exact ⟨t, ht.nox, hq⟩
  show wpAny _ _ (call (.ref g) [u0, .ref f1, .ref f2]) _ _ _
  refine wpAny_call (codeAny_mono rc fun r s4 hq => ?_)
  cases r with
  | error e => exact (show False from hq).elim
  | ok fl =>
    cases fl with
    | ret u => exact I4.after hq
    | next => exact False.elim hq
    | brk => exact False.elim hq
    | cont => exact False.elim hq
end
end DL
/-! part DL22 -/
namespace DL
open PySem PySem.Spec PyProof.Rows L2 My LamX NdefX
/-- a def whose code object is told to its body -/
theorem okCode {P : Program} {w : World} {K : PySem.W.Frag} {mg : Str → Option Value} {base : Heap} {x ql : Str} {st : Stmt} {f : Addr} {fd : FuncData} {N ps : List Str} {k : Nat} {sp : Sp} (Fn : Fun K x ql st f fd) (Sn : FnScope N ps (defScope st)) (len : ∀ vs H Q E, sp vs H Q E → vs.length = ps.length)
    (hb : ∀ (cd : Value) (A : Around) (outer : List Env) (s : Shared) (H : Hp) (vs : List V) (Q : VK) (E : XK), cd = fd.code → Room k (A.deeper (envOfC ql (defScope st) s.heap.objs.size f cd)) → sp vs H Q E →
      ∃ t, PSs (cxOf CX0 P w K mg base N ql (defScope st) f cd A outer s H E).nox (defBody st) t ∧ t { nx := fun _ H' => Q .non H', rt := Q } (L2.start N vs) H) : FnOk P w K mg base CX0 (k + 1) f fd ps sp := by
  obtain ⟨oc, od, kV, doc, pm, an, cdv, ct, osl, rfl, lk, hcd⟩ := Fn.ex
  refine fn_of lk hcd Sn len fun A outer s H vs Q E hr hsp => ?_
  obtain ⟨t, h, q⟩ := hb cdv A outer s H vs Q E rfl hr hsp
  exact ⟨t, h.nox, q⟩
/-- the state tells the table at P, and stands when it grows -/
structure HasTab {S : Type} (A : Am S) (P : Addr) (q : Str) : Prop where
  tab : A.tab P
  get : ∀ s Q H, A.at_ s Q H → TabS H P q
  put : ∀ s Q H H', A.at_ s Q H → ButP P H H' → TabS H' P q → (∀ c q', H' c = some (CodeO c q') → ¬ Q c) → A.at_ s Q H'
theorem hasTab_T {T : List (Addr × Str)} {P : Addr} {q : Str} (hT : (P, q) ∈ T) (hu : ∀ p ∈ T, p.1 = P → p.2 = q) : HasTab (AmT T) P q := by
  refine ⟨⟨q, hT⟩, fun s Q H h => AmT.tab h hT, fun s Q H H' h b t vis p hp => ?_⟩
  obtain ⟨n, ps, h1, h2, h3⟩ := h p hp
  by_cases e : p.1 = P
  · obtain ⟨ps', g1, g2, g3⟩ := t
    refine ⟨n, ps', by rw [e]; exact g1, g2, fun pos cv hc => ?_⟩
    obtain ⟨c, e1, e2⟩ := g3 pos cv hc
    rw [hu p hp e]
    exact ⟨c, e1, e2, vis _ _ e2⟩
  · refine ⟨n, ps, b _ _ e h1, h2, fun pos cv hc => ?_⟩
    obtain ⟨c, e1, e2, e3⟩ := h3 pos cv hc
    exact ⟨c, e1, b _ _ (tab_ne (AmT.tab h hT) e2) e2, e3⟩
theorem HasTab.ofC {S : Type} {A : Am S} {P : Addr} {q : Str} (t : HasTab A P q) {K : PySem.W.Frag} {us : List V} {ds : List Dt} {cs : List (Addr × Str)} : HasTab (AmC A K us ds cs) P q := by
  refine ⟨t.tab, fun s Q H h => t.get s Q H h.1, fun s Q H H' h b t' vis => ⟨t.put s Q H H' h.1 b t' vis, h.2.1.same (hidP_same fun c o e n m => ⟨m, b c o (fun z => ?_) e⟩), fun p hp => ⟨(h.2.2 p hp).1, b _ _ (tab_ne (t.get s Q H h.1) (h.2.2 p hp).2) (h.2.2 p hp).2⟩⟩⟩
  obtain ⟨ps, g1, _⟩ := t.get s Q H h.1
  rw [z, g1] at e
  cases e
  exact n _ rfl
/-- the captured slots: their values, their data -/
inductive CapD (σ : L2.St) (ρ : En) : List Nat → List V → List Dt → Prop
  | nil : CapD σ ρ [] [] []
  | cons {j : Nat} {js : List Nat} {u : V} {us : List V} {d : Dt} {ds : List Dt} : σ[j]? = some (some u) → ρ[j]? = some (.dat d) → CapD σ ρ js us ds → CapD σ ρ (j :: js) (u :: us) (d :: ds)
theorem capD_of {S : Type} {K : PySem.W.Frag} {A : Am S} {F : Addr → Prop} {H0 : Hp} {O : Nat → Addr} {σ : L2.St} {H : Hp} {τ : En × S} (st : Stt K A F H0 O σ H τ) : ∀ {js : List Nat}, (∀ j ∈ js, ∃ d, τ.1[j]? = some (Sl.dat d)) → ∃ us ds, CapD σ τ.1 js us ds ∧ DXs K (hidP (hidn F O τ.1) H) us ds
  | [], _ => ⟨[], [], .nil, .nil⟩
  | j :: js, h => by
    obtain ⟨d, hd⟩ := h j List.mem_cons_self
    obtain ⟨u, h1, h2⟩ := st.dat j d hd
    obtain ⟨us, ds, h3, h4⟩ := capD_of st (js := js) fun k hk => h k (List.mem_cons_of_mem _ hk)
    exact ⟨u :: us, d :: ds, .cons h1 hd h3, .cons h2 h4⟩
section
variable {S : Type}
def wCall2L (js : List Nat) (wfF : En × S → WF S) (w0 : WE S) : WE S := ⟨fun τ k => w0.f τ fun d0 τ1 => (∀ j ∈ js, ∃ d, τ1.1[j]? = some (Sl.dat d)) ∧ ∀ f1 f2 : Addr, (wfF τ1).f [d0, .ptr f1, .ptr f2] τ1.2 (ansK fun d' s' => k d' (τ1.1, s')),
  fun τ k k' m h => w0.mono _ _ _ (fun d0 τ1 h1 => ⟨h1.1, fun f1 f2 => (wfF τ1).mono _ _ _ _ (ansK_mono fun d s' => m d (τ1.1, s')) (h1.2 f1 f2)⟩) h⟩
variable {K : PySem.W.Frag} {X : Cx} {x a1 a2 a3 : Str} {g c P : Addr} {fd : FuncData} {st : Stmt} {Ng fr1 fr2 : List Str} {k m : Nat} {pr1 pr2 : Arguments} {b1 b2 e0 : Expr} {sc1 sc2 : Scope} {lp1 lp2 p pos : Pos} {js js1 js2 : List Nat} {A : Am S} {w0 : WE S} {wfF : En × S → WF S}
theorem d_call2L (hg : Gl X x) (hm : X.mg x = some (.ref g)) (Fg : Fun X.K x x st g fd) (Sg : FnScope Ng [a1, a2, a3] (defScope st)) (hb : Binds X.K fd [a1, a2, a3] []) (TB : TabB X.base X.mg c P) (hcode : X.env.code = .ref c) (hr : Room (k + 1) X.A)
    (La : LamFree X sc1 fr1 js1) (Lb : LamFree X sc2 fr2 js2) (hd1 : defaultsOf pr1 X.env = ([], [])) (hd2 : defaultsOf pr2 X.env = ([], [])) (hT : HasTab A P (X.env.qual ++ "<lambda>")) (h0 : PE X e0 (tE K A w0)) (hNg : Ng.length = 3 + m)
    (hbody : ∀ (σ : L2.St) (f1 c1 f2 c2 : Addr) (s : Shared) (H : Hp) (us : List V) (ds : List Dt) (τ : En × S) (cdv : Value), LamHere X σ s H pr1 b1 sc1 fr1 js1 f1 c1 → LamHere X σ s H pr2 b2 sc2 fr2 js2 f2 c2 → CapD σ τ.1 js us ds → Room k (X.A.deeper (envOfC x (defScope st) s.heap.objs.size g cdv)) →
      ∃ ws, PSs (cxOf CX0 X.prog X.w X.K X.mg X.base Ng x (defScope st) g cdv X.A X.stack s H E0).nox (defBody st) (tS K (AmC A K us ds [(c1, X.env.qual ++ "<lambda>"), (c2, X.env.qual ++ "<lambda>")]) ws) ∧ ∀ d0 (k : Rs → S → Prop), (wfF τ).f [d0, .ptr f1, .ptr f2] τ.2 k → ws.f (ent [d0, .ptr f1, .ptr f2] m, τ.2) fun r τ' => k r τ'.2)
    (hdb : (x == ("__debug__" : Str)) = false := by decide)
    (he : starEach (e0 :: [.Lambda pr1 b1 sc1 lp1, .Lambda pr2 b2 sc2 lp2]) X.env = (false, eval e0 X.env) :: starEach [.Lambda pr1 b1 sc1 lp1, .Lambda pr2 b2 sc2 lp2] X.env := by rfl) (hpl : (backTo pos (starEach [.Lambda pr1 b1 sc1 lp1, .Lambda pr2 b2 sc2 lp2] X.env)).any (·.1) = false := by rfl) :
    PE X (.Call (.Name x p) [e0, .Lambda pr1 b1 sc1 lp1, .Lambda pr2 b2 sc2 lp2] [] pos) (tE K A (wCall2L js wfF w0)) := by
  refine PE.imp (pe_call2L (R := fun σ v0 f1 c1 f2 c2 H Q => ∃ (F : Addr → Prop) (τ : En × S) (d0 : Dt) (us : List V) (ds : List Dt), CapD σ τ.1 js us ds ∧ spD K (AmC A K us ds [(c1, X.env.qual ++ "<lambda>"), (c2, X.env.qual ++ "<lambda>")]) 3 ⟨fun es s k => s = τ.2 ∧ ∃ d0, es = [d0, .ptr f1, .ptr f2] ∧ (wfF τ).f es s k, fun es s k k' m ⟨z, d, e, h⟩ => ⟨z, d, e, (wfF τ).mono _ _ _ _ m h⟩⟩ [v0, .ref f1, .ref f2] H Q E0)
    hg hm Fg Sg hb TB hcode hr La Lb hd1 hd2 h0 (fun σ f1 c1 f2 c2 s H v0 Q cdv l1 l2 hr' ⟨F, τ, d0, us, ds, cd, sp⟩ => ?_) hdb he hpl) fun σ H Q ⟨F, H0, O, τ, s0, q⟩ => ?_
  · obtain ⟨ws, hp, hw⟩ := hbody σ f1 c1 f2 c2 s H us ds τ cdv l1 l2 cd hr'
    refine ⟨_, hp, d_start (n := 3) (m := m) (E := E0) sp hNg fun ds s k _ ⟨z, d, e, h⟩ => by subst e; subst z; exact hw d k h⟩
  · refine bindE s0 q fun H1 v O1 d0 τ1 s1 k1 x1 ⟨hj, q1⟩ => ⟨hT.get _ _ _ s1.am, fun f1 c1 f2 c2 H3 B T3 e1 e2 => ?_⟩
    have ev : EvA A H1 H3 := fun b o e _ nt => B b o (fun z => nt (z ▸ hT.tab)) e
    have nP : ∀ a, hidn F O1 τ1.1 a → a ≠ P := fun a h z => by
      obtain ⟨o, e, hd⟩ := s1.ex h
      obtain ⟨ps, g1, _⟩ := hT.get _ _ _ s1.am
      rw [z, g1] at e
      cases e
      exact hd
    have vis : ∀ c q', H3 c = some (CodeO c q') → ¬ hidn F O1 τ1.1 c := fun c q' e h => by
      obtain ⟨o, e3, hd⟩ := s1.ex h
      rw [B _ _ (nP _ h) e3] at e
      cases e
      exact hd_code hd
    have am3 := hT.put _ _ _ _ s1.am B T3 vis
    obtain ⟨s3, k3⟩ := s1.call (Lens.id A) am3 ev
    obtain ⟨us, ds, cd, xs⟩ := capD_of s3 hj
    refine ⟨hidn F O1 τ1.1, τ1, d0, us, ds, cd, hidn F O1 τ1.1, τ1.2, [d0, .ptr f1, .ptr f2], rfl, ⟨am3, xs, fun p hp => ?_⟩, fun a f => s3.finN a f, fun a h => s3.ex h, .cons (x1.same k3) (.cons (.sp rfl) (.cons (.sp rfl) .nil)), rfl, d0, rfl, (wfF τ1).mono _ _ _ _ (fun r s' h => ?_) (q1 f1 f2)⟩
    · rcases List.mem_cons.mp hp with rfl | hp
      · exact ⟨vis _ _ e1, e1⟩
      · rcases List.mem_cons.mp hp with rfl | hp
        · exact ⟨vis _ _ e2, e2⟩
        · cases hp
    · have back : ∀ {s' : S} {P' : Addr → Prop} {H' : Hp}, (AmC A K us ds [(c1, X.env.qual ++ "<lambda>"), (c2, X.env.qual ++ "<lambda>")]).at_ s' P' H' → A.at_ s' P' H' := fun h => h.1
      cases r with
      | nx => exact fun H' am e => let ⟨s4, k4⟩ := s3.call (Lens.id A) am.1 e; h H' .non O1 s4 (k1.trans (k3.trans k4)) .non
      | rt d => exact fun H' v am e x => let ⟨s4, k4⟩ := s3.call (Lens.id A) am.1 e; h H' v O1 s4 (k1.trans (k3.trans k4)) x
      | rl cn =>
        exact fun H' a o am e n0 ea x =>
          let ⟨s4, k4⟩ := s3.call (Lens.id A) (A.move _ _ _ _ _ am.1 (fun b o e n => ⟨fun z => n (.inl z), e⟩) fun _ _ e _ => e) e
          h H' (.ref a) O1 s4 (k1.trans (k3.trans k4)) ((x.same (hidP_same fun b o e _ n => ⟨fun h => n (.inl h), e⟩)).data (hidP_mk (s3.fresh n0) ea x.hd.ntb))
      | bk => exact h.elim
      | ct => exact h.elim
end
end DL
/-! part DL23 -/
namespace DL
open PySem PySem.Spec PyProof.Rows L2 My
variable {S : Type}
/-! ### range, zip -/
section
variable {X : Cx} {K : PySem.W.Frag} {A : Am S} {tg a e e2 : Expr} {elts : List Expr} {kk : Nat} {p pos tpos : Pos} {wa : WA S}
theorem i_range (hg : Gl X "range") (hm : X.mg "range" = none) (ha : PA X [a] (tAs K A wa)) (hs : starEach [a] X.env = [(false, eval a X.env)] := by rfl) : PI X tg (.Call (.Name "range" p) [a] [] pos) (tIt K A (wRng wa)) :=
  PI.imp (pi_range1 hg hm ha hs) fun σ H R ⟨F, H0, O, τ, st, q⟩ => bindA st q fun H1 vs O1 ds τ1 s1 k1 x1 q1 => by
    match ds, x1, q1 with
    | [.int n], x1, q1 =>
      obtain ⟨v, rfl, x⟩ := x1.one
      obtain rfl := x.intI
      refine ⟨n, rfl, q1.1.1, q1.1.2, q1.2 H1 O1 _ s1 k1 ⟨_, _, _, walk_range, (by rw [List.length_map, List.length_range]), fun _ _ _ => trivial, fun i H' v H'' P hi s nP y => ?_⟩⟩
      obtain ⟨rfl, rfl⟩ := y
      refine ⟨Same.refl _, fun d hd => ?_⟩
      rw [List.getElem?_map, List.getElem?_range hi] at hd
      cases hd
      show DX K (hidP P H'') (V.int (0 + (i : Int))) (Dt.int (i : Int))
      rw [Int.zero_add]
      exact .int _
def zipD (xs ys : List Dt) : List Dt := List.zipWith (fun x y => Dt.tup [x, y]) xs ys
def wZip (a : WA S) : WA S := ⟨fun τ k => a.f τ fun ds τ1 => match ds with
    | [.lst xs, .lst ys] => k (zipD xs ys) τ1
    | [.tup xs, .tup ys] => k (zipD xs ys) τ1
    | _ => False, fun τ k k' m h => a.mono _ _ _ (fun d τ1 h1 => by
  revert h1
  split
  · exact m _ _
  · exact m _ _
  · exact id) h⟩
theorem walk_zipT {K : PySem.W.Frag} {a b : Addr} {xs ys : List V} {n : Nat} (hn : n = min xs.length ys.length) : Walk (RZ.ItzT K a b) n (fun H => SqT K H a xs ∧ SqT K H b ys) (YPair (fun i => xs[i]?) (fun i => ys[i]?)) := by
  subst hn
  refine ⟨fun i _ hi q => ?_, fun _ q => ⟨xs, ys, q.1, q.2, by omega⟩, fun i H v H' _ q ⟨T, x, y, h1, h2, h3, h4, h5⟩ => ⟨T, x, y, h1, h2, h3, h4 _ q.1, h5 _ q.2⟩⟩
  exact ⟨xs, ys, xs[i]'(by omega), ys[i]'(by omega), q.1, q.2, List.getElem?_eq_getElem (by omega), List.getElem?_eq_getElem (by omega)⟩
theorem pairX {K : PySem.W.Frag} {P : Addr → Prop} {H : Hp} {T : Addr} {x y : V} {d e : Dt} (nT : H T = none) (nP : ¬ P T) (hx : DX K (hidP P H) x d) (hy : DX K (hidP P H) y e) : DX K (hidP P (upd H T (.tup [x, y]))) (.ref T) (.tup [d, e]) :=
  dxNewT nT nP (by show 2 ≤ 1000000; decide) (.cons hx (.cons hy .nil))
theorem zip_at {xs ys : List Dt} {i : Nat} {d : Dt} (h : (zipD xs ys)[i]? = some d) : ∃ a b, xs[i]? = some a ∧ ys[i]? = some b ∧ d = .tup [a, b] := by
  unfold zipD at h
  rw [List.getElem?_zipWith] at h
  split at h
  · rename_i a b e1 e2
    exact ⟨a, b, e1, e2, (Option.some.inj h).symm⟩
  · cases h
theorem i_zip (hg : Gl X "zip") (hm : X.mg "zip" = none) (ha : PA X [e, e2] (tAs K A wa)) (hK : X.K = K := by rfl)
    (hs : starEach [e, e2] X.env = (false, eval e X.env) :: starEach [e2] X.env := by rfl) (hpl : (backTo pos (starEach [e2] X.env)).any (·.1) = false := by rfl) : PI X (.Tuple elts kk tpos) (.Call (.Name "zip" p) [e, e2] [] pos) (tIt K A (wZip wa)) := by
  subst hK
  refine PI.imp (RZ.pi_zipA hg hm ha hs hpl) fun σ H R ⟨F, H0, O, τ, st, q⟩ => bindA st q fun H1 vs O1 ds τ1 s1 k1 x1 q1 => ?_
  match ds, x1, q1 with
  | [.lst xs, .lst ys], x1, q1 =>
    cases x1 with
    | cons xa r =>
      obtain ⟨v2, rfl, xb⟩ := r.one
      obtain ⟨c, us, rfl, h1, _, h3⟩ := xa.lstI
      obtain ⟨c2, us2, rfl, h4, _, h6⟩ := xb.lstI
      refine ⟨c, c2, us, us2, rfl, .inl ⟨hidL h1, hidL h4, q1 H1 O1 _ s1 k1 ⟨_, _, _, walk_zip (xs := us) (ys := us2) rfl, by rw [h3.len, h6.len]; unfold zipD; rw [List.length_zipWith], fun P H' s => ⟨.inl (.inl (hidP_less _ _ (s _ _ h1))), .inl (.inl (hidP_less _ _ (s _ _ h4)))⟩, fun i H' v H'' P hi s nP y => ?_⟩⟩⟩
      obtain ⟨T, x, y, rfl, nT, rfl, e1, e2⟩ := y
      refine ⟨same_new nT _, fun d hd => ?_⟩
      obtain ⟨a, b, f1, f2, rfl⟩ := zip_at hd
      obtain ⟨u1, g1, g2⟩ := h3.at_ f1
      obtain ⟨u2, g3, g4⟩ := h6.at_ f2
      obtain rfl : u1 = x := Option.some.inj (g1.symm.trans e1)
      obtain rfl : u2 = y := Option.some.inj (g3.symm.trans e2)
      exact pairX nT (nP _ nT) (g2.same s) (g4.same s)
  | [.tup xs, .tup ys], x1, q1 =>
    cases x1 with
    | cons xa r =>
      obtain ⟨v2, rfl, xb⟩ := r.one
      obtain ⟨c, us, rfl, h1, _, h3⟩ := xa.tupI
      obtain ⟨c2, us2, rfl, h4, _, h6⟩ := xb.tupI
      refine ⟨c, c2, us, us2, rfl, .inr ⟨hidT h1, hidT h4, q1 H1 O1 _ s1 k1 ⟨_, _, _, walk_zipT (xs := us) (ys := us2) rfl, by rw [h3.len, h6.len]; unfold zipD; rw [List.length_zipWith], fun P H' s => ⟨Same.seqT hidP_less (Same.seqT s h1), Same.seqT hidP_less (Same.seqT s h4)⟩, fun i H' v H'' P hi s nP y => ?_⟩⟩⟩
      obtain ⟨T, x, y, rfl, nT, rfl, e1, e2⟩ := y
      refine ⟨same_new nT _, fun d hd => ?_⟩
      obtain ⟨a, b, f1, f2, rfl⟩ := zip_at hd
      obtain ⟨u1, g1, g2⟩ := h3.at_ f1
      obtain ⟨u2, g3, g4⟩ := h6.at_ f2
      obtain rfl : u1 = x := Option.some.inj (g1.symm.trans e1)
      obtain rfl : u2 = y := Option.some.inj (g3.symm.trans e2)
      exact pairX nT (nP _ nT) (g2.same s) (g4.same s)
end
/-! ### all, is None -/
def boolsD : List Dt → Option (List Bool)
  | [] => some []
  | .bl b :: ds => (boolsD ds).map (b :: ·)
  | _ :: _ => none
theorem bools_rel {K : PySem.W.Frag} {H : Hp} : ∀ {vs : List V} {ds : List Dt} {l : List Bool}, DXs K H vs ds → boolsD ds = some l → vs = l.map V.bl
  | _, _, l, .nil, h => by
    cases h
    rfl
  | _, _, l, .cons (d := d) r k, h => by
    cases d with
    | bl s =>
      obtain ⟨m, hm, rfl⟩ := Option.map_eq_some_iff.mp h
      rw [bools_rel k hm]
      cases r
      rfl
    | _ => cases h
def gAll : List Dt → Option Dt
  | [.lst ds] => (boolsD ds).map fun l => .bl (l.all id)
  | _ => none
theorem o_all {K : PySem.W.Frag} : OpN K (rAll K) gAll := fun P xs ds c H Q nP hx h q => by
  match ds, hx, h with
  | [.lst es], hx, h =>
    obtain ⟨v, rfl, x⟩ := hx.one
    obtain ⟨p, vs, rfl, h1, _, h3⟩ := x.lstI
    obtain ⟨l, hl, rfl⟩ := Option.map_eq_some_iff.mp h
    rw [bools_rel h3 hl] at h1
    exact ⟨p, l, rfl, hidL h1, q H _ (Same.refl H) (.bl _)⟩
def Dt.isN : Dt → Bool
  | .non => true
  | _ => false
def gIsN (neg : Bool) : Dt → Dt → Option Dt
  | d, .non => some (.bl (d.isN != neg))
  | _, _ => none
theorem isN_v {K : PySem.W.Frag} {H : Hp} {v : V} {d : Dt} (x : DX K H v d) : decide (v = .non) = d.isN := by
  cases x <;> simp [Dt.isN]
theorem o_isN {K : PySem.W.Frag} : Op2 K rIsN (gIsN false) := fun P x y d e c H Q nP hx hy h q => by
  cases e with
  | non =>
    cases hy
    cases h
    refine ⟨rfl, ?_⟩
    rw [isN_v hx]
    have z := q H (.bl (d.isN != false)) (Same.refl H) (.bl _)
    rwa [Bool.bne_false] at z
  | _ => cases h
/-! ### x.insert(i, e) -/
def wIns (i : Nat) (a b : WE S) : WS S := ⟨fun τ k => ownK τ i fun _ => a.f τ fun d τ1 => b.f τ1 fun e τ2 => ownK τ2 i fun ds => match d with
    | .int n => ds.length < 1000000 ∧ 0 ≤ n ∧ n ≤ ds.length ∧ k .nx (putSl τ2 i (.own (.lst (ds.take n.toNat ++ [e] ++ ds.drop n.toNat))))
    | _ => False, fun τ k k' m h => ownK_mono (fun _ h => a.mono _ _ _ (fun d τ1 h1 => b.mono _ _ _ (fun e τ2 h2 => ownK_mono (fun ds h3 => by
  revert h3
  split
  · exact fun h => ⟨h.1, h.2.1, h.2.2.1, m _ _ h.2.2.2⟩
  · exact id) h2) h1) h) h⟩
section
variable {X : Cx} {K : PySem.W.Frag} {A : Am S} {o e f : Expr} {pos cpos apos : Pos} {wa wb : WE S}
theorem s_ins {i : Nat} (hv : PE X o (tVar i)) (ha : PE X e (tE K A wa)) (hb : PE X f (tE K A wb)) (hK : X.K = K := by rfl) (hbase : attributeBase o "insert" X.env (eval o X.env) = eval o X.env := by rfl)
    (hfew : ((backTo cpos (starEach (e :: [f]) X.env)).all (fun x => !x.1) && (backToKw cpos (keywordEach [] X.env)).all (fun x => x.1.isSome) && decide ((e :: [f]).length + ([] : List Keyword).length + (if ([] : List Keyword).isEmpty then 0 else 1) < 30)) = true := by rfl)
    (hline : (apos.endLine == cpos.line) = true := by rfl) (hs : starEach (e :: [f]) X.env = (false, eval e X.env) :: starEach [f] X.env := by rfl) (hs2 : starEach (f :: []) X.env = (false, eval f X.env) :: starEach [] X.env := by rfl) (hplain : (backTo cpos (starEach [f] X.env)).any (·.1) = false := by rfl) (hsw : swapsWith (.Call (.Attribute o "insert" apos) [e, f] [] cpos) none pos.line X.env = pure false := by rfl) :
    PS X (.Expr (.Call (.Attribute o "insert" apos) [e, f] [] cpos) pos) (tS K A (wIns i wa wb)) :=
  PS.imp (ps_expr (pe_bm PySem.F.plainAttrs_list PySem.F.slot_list_insert PySem.F.type_list_insert mt_insert hv (pa_cons ha (pa_cons hb pa_nil hs2) hs) hbase hfew hline hs hplain) hsw) fun D σ H ⟨F, H0, O, τ, s0, q⟩ => by
    obtain ⟨ds0, h0, q⟩ := ownK_some q
    obtain ⟨vs0, g1, g2, g3, g4, g5⟩ := s0.ownL h0
    refine ⟨_, g1, .inl ⟨rfl, _, .inl (.inl g3)⟩, bindE s0 q fun H1 v O1 d τ1 s1 k1 x1 q1 => bindE s1 q1 fun H2 u O2 e τ2 s2 k2 x2 q2 => ?_⟩
    obtain ⟨ds, h1, q2⟩ := ownK_some q2
    obtain ⟨vs, f1, f2, f3, f4, f5⟩ := s2.ownL h1
    have eO := s0.sameO s2 h0 h1
    have lv : vs.length = ds.length := f5.len
    rw [eO] at f3
    cases d with
    | int n =>
      obtain ⟨l, n0, n1, q2⟩ := q2
      obtain rfl := x1.intI
      refine ⟨O i, vs, n, u, rfl, rfl, f3, by unfold sizeLine; omega, n0, by omega, ?_⟩
      obtain ⟨s3, k3⟩ := s2.putOwn (o := .lst (vs.take n.toNat ++ [u] ++ vs.drop n.toNat)) (c := .lst (ds.take n.toNat ++ [e] ++ ds.drop n.toNat)) h1 (.lst (by simp only [List.length_append, List.length_take, List.length_drop, List.length_singleton]; omega) (((f5.take _).append (.cons x2 .nil)).append (f5.drop _)))
      rw [eO] at s3 k3
      exact q2 _ _ _ s3 (k1.trans (k2.trans k3))
    | _ => exact q2.elim
/-- len of a list of one's own -/
def wLenOwn (i : Nat) : WE S := ⟨fun τ k => ownK τ i fun ds => k (.int ds.length) τ, fun τ k k' m h => ownK_mono (fun ds h => m _ _ h) h⟩
theorem d_lenOwn {i : Nat} {p : Pos} (hgl : Gl X "len") (hm : X.mg "len" = none) (ho : PE X o (tVar i)) (hK : X.K = K := by rfl)
    (he : starEach [o] X.env = (false, eval o X.env) :: starEach [] X.env := by rfl) (hpl : (backTo pos (starEach [] X.env)).any (·.1) = false := by rfl) : PE X (.Call (.Name "len" p) [o] [] pos) (tE K A (wLenOwn i)) := by
  subst hK
  refine PE.imp (pe_callB call_len_seq hgl hm (by decide +kernel) (pa_cons ho pa_nil he) (he := he) (hpl := hpl)) fun σ H Q ⟨F, H0, O, τ, s0, q⟩ => ?_
  obtain ⟨ds, h0, q⟩ := ownK_some q
  obtain ⟨vs, g1, g2, g3, g4, g5⟩ := s0.ownL h0
  refine ⟨_, g1, O i, vs, rfl, .inl (.inl (.inl g3)), ?_⟩
  rw [g5.len]
  exact q H _ O s0 (Same.refl _) (.int _)
end
end DL
/-! part DL24 -/
namespace DL
open PySem PySem.Spec PyProof.Rows L2 My
/-! ### an object of one's own class that changes -/
/-- a field: data, or a thing of its own -/
inductive Fd where
  | dat (d : Dt) | own (c : Cn)
abbrev OS := List (Str × Fd)
/-- where it stands: its class, it, its dict, its own things -/
structure Ob where
  C : Addr
  a : Addr
  dx : Addr
  names : List Str
  ow : Str → Addr
  inj : ∀ n ∈ names, ∀ m ∈ names, ow n = ow m → n = m
  apa : ∀ n ∈ names, ow n ≠ a ∧ ow n ≠ dx
  adx : a ≠ dx
def Ob.foot (B : Ob) : Addr → Prop := fun b => b = B.a ∨ b = B.dx ∨ ∃ n ∈ B.names, B.ow n = b
inductive FdX (K : PySem.W.Frag) (P : Addr → Prop) (H : Hp) (B : Ob) : List (Str × V) → OS → Prop
  | nil : FdX K P H B [] []
  | dat {f : Str} {v : V} {vs : List (Str × V)} {d : Dt} {fs : OS} : DX K (hidP P H) v d → FdX K P H B vs fs → FdX K P H B ((f, v) :: vs) ((f, .dat d) :: fs)
  | own {f : Str} {o : HO} {vs : List (Str × V)} {c : Cn} {fs : OS} : f ∈ B.names → H (B.ow f) = some o → CnX K (hidP P H) o c → FdX K P H B vs fs → FdX K P H B ((f, .ref (B.ow f)) :: vs) ((f, .own c) :: fs)
section
variable {K : PySem.W.Frag} {P P' : Addr → Prop} {H H' : Hp} {B : Ob}
theorem FdX.move (s : Same (hidP P H) (hidP P' H')) (h : ∀ f o, f ∈ B.names → H (B.ow f) = some o → H' (B.ow f) = some o) : ∀ {vs : List (Str × V)} {fs : OS}, FdX K P H B vs fs → FdX K P' H' B vs fs
  | _, _, .nil => .nil
  | _, _, .dat x r => .dat (x.same s) (FdX.move s h r)
  | _, _, .own n e x r => .own n (h _ _ n e) (x.same s) (FdX.move s h r)
theorem FdX.len : ∀ {vs : List (Str × V)} {fs : OS}, FdX K P H B vs fs → vs.length = fs.length
  | _, _, .nil => rfl
  | _, _, .dat _ r => by rw [List.length_cons, List.length_cons, FdX.len r]
  | _, _, .own _ _ _ r => by rw [List.length_cons, List.length_cons, FdX.len r]
theorem FdX.none {f : Str} : ∀ {vs : List (Str × V)} {fs : OS}, FdX K P H B vs fs → fs.lookup f = Option.none → vs.lookup f = Option.none
  | _, _, .nil, _ => rfl
  | _, _, .dat (f := g) x r, h => by
    rw [List.lookup_cons] at h ⊢
    split at h
    · cases h
    · exact FdX.none r h
  | _, _, .own (f := g) n e x r, h => by
    rw [List.lookup_cons] at h ⊢
    split at h
    · cases h
    · exact FdX.none r h
theorem FdX.d {f : Str} {d : Dt} : ∀ {vs : List (Str × V)} {fs : OS}, FdX K P H B vs fs → fs.lookup f = some (.dat d) → ∃ v, vs.lookup f = some v ∧ DX K (hidP P H) v d
  | _, _, .nil, h => by cases h
  | _, _, .dat (f := g) x r, h => by
    rw [List.lookup_cons] at h
    rw [List.lookup_cons]
    split at h
    · cases h
      exact ⟨_, rfl, x⟩
    · exact FdX.d r h
  | _, _, .own (f := g) n e x r, h => by
    rw [List.lookup_cons] at h
    rw [List.lookup_cons]
    split at h
    · cases h
    · exact FdX.d r h
theorem FdX.o {f : Str} {c : Cn} : ∀ {vs : List (Str × V)} {fs : OS}, FdX K P H B vs fs → fs.lookup f = some (.own c) → f ∈ B.names ∧ vs.lookup f = some (.ref (B.ow f)) ∧ ∃ o, H (B.ow f) = some o ∧ CnX K (hidP P H) o c
  | _, _, .nil, h => by cases h
  | _, _, .dat (f := g) x r, h => by
    rw [List.lookup_cons] at h
    rw [List.lookup_cons]
    split at h
    · cases h
    · exact FdX.o r h
  | _, _, .own (f := g) n e x r, h => by
    rw [List.lookup_cons] at h
    rw [List.lookup_cons]
    split at h
    · rename_i q
      cases h
      obtain rfl := eq_of_beq q
      exact ⟨n, rfl, _, e, x⟩
    · exact FdX.o r h
/-- a field set -/
def putFd (f : Str) (x : Fd) : OS → OS
  | [] => [(f, x)]
  | (g, y) :: r => if g = f then (g, x) :: r else (g, y) :: putFd f x r
theorem FdX.putD {f : Str} {v : V} {d : Dt} (x : DX K (hidP P H) v d) : ∀ {vs : List (Str × V)} {fs : OS}, FdX K P H B vs fs → FdX K P H B (putF f v vs) (putFd f (.dat d) fs)
  | _, _, .nil => .dat x .nil
  | _, _, .dat (f := g) y r => by
    unfold putF putFd
    split
    · exact .dat x r
    · exact .dat y (FdX.putD x r)
  | _, _, .own (f := g) n e y r => by
    unfold putF putFd
    split
    · exact .dat x r
    · exact .own n e y (FdX.putD x r)
end
/-- the object stands -/
structure ObAt (K : PySem.W.Frag) (B : Ob) (fs : OS) (P : Addr → Prop) (H : Hp) : Prop where
  ex : ∃ vs, H B.a = some (.ins B.C B.dx vs) ∧ FdX K P H B vs fs
  dx : H B.dx = some (.own B.a)
  nms : ∀ n ∈ B.names, ∃ o, H (B.ow n) = some o ∧ Hd o
  few : fs.length ≤ 100
def AmO (K : PySem.W.Frag) (B : Ob) : Am OS where
  at_ fs P H := ObAt K B fs P H
  foot := B.foot
  tab _ := False
  has fs P H a h f := by
    rcases f with rfl | rfl | ⟨n, hn, rfl⟩
    · obtain ⟨vs, e, _⟩ := h.ex
      exact ⟨_, e, trivial⟩
    · exact ⟨_, h.dx, trivial⟩
    · exact h.nms n hn
  hasT _ _ _ _ _ h := h.elim
  move fs P P' H H' h k f := by
    obtain ⟨vs, e, x⟩ := h.ex
    exact ⟨⟨vs, f _ _ e (.inl rfl), x.move k.same fun n o hn eo => f _ _ eo (.inr (.inr ⟨n, hn, rfl⟩))⟩, f _ _ h.dx (.inr (.inl rfl)), fun n hn => by
      obtain ⟨o, e1, e2⟩ := h.nms n hn
      exact ⟨o, f _ _ e1 (.inr (.inr ⟨n, hn, rfl⟩)), e2⟩, h.few⟩
theorem putFd_len (f : Str) (x : Fd) : ∀ fs : OS, (putFd f x fs).length ≤ fs.length + 1
  | [] => Nat.le_refl _
  | (g, y) :: r => by
    unfold putFd
    split
    · simp
    · have := putFd_len f x r
      simp only [List.length_cons]
      omega
/-- what an own field becomes -/
theorem lookup_putFd (f g : Str) (x : Fd) : ∀ fs : OS, (putFd f x fs).lookup g = if g = f then some x else fs.lookup g
  | [] => by
    show List.lookup g [(f, x)] = _
    rw [List.lookup_cons]
    by_cases h : g = f
    · subst h
      simp
    · rw [if_neg h, beq_false_of_ne h]
  | (k, y) :: r => by
    unfold putFd
    by_cases h : k = f
    · subst h
      rw [if_pos rfl, List.lookup_cons, List.lookup_cons]
      by_cases h2 : g = k
      · subst h2
        simp
      · rw [if_neg h2, beq_false_of_ne h2]
    · rw [if_neg h, List.lookup_cons, List.lookup_cons, lookup_putFd f g x r]
      by_cases h2 : g = k
      · subst h2
        rw [if_neg h, beq_self_eq_true, if_neg h]
      · rw [beq_false_of_ne h2]
section
variable {K : PySem.W.Frag} {P : Addr → Prop} {H : Hp} {B : Ob} {fs : OS}
/-- a data field is set -/
theorem ObAt.setD (h : ObAt K B fs P H) {vs : List (Str × V)} (e : H B.a = some (.ins B.C B.dx vs)) (x : FdX K P H B vs fs) {f : Str} {v : V} {d : Dt} (y : DX K (hidP P H) v d) (foot : ∀ a, B.foot a → P a) (few : fs.length < 100) : ObAt K B (putFd f (.dat d) fs) P (upd H B.a (.ins B.C B.dx (putF f v vs))) := by
  have s : Same (hidP P H) (hidP P (upd H B.a (.ins B.C B.dx (putF f v vs)))) := hidP_same fun b o e _ n => ⟨n, by rw [upd_ne (fun z => n (foot b (.inl z)))]; exact e⟩
  have on : ∀ n o, n ∈ B.names → H (B.ow n) = some o → upd H B.a (.ins B.C B.dx (putF f v vs)) (B.ow n) = some o := fun n o hn e1 => by
    rw [upd_ne (B.apa n hn).1]
    exact e1
  refine ⟨⟨_, upd_same, ((x.move s on).putD (y.same s))⟩, by rw [upd_ne (Ne.symm B.adx)]; exact h.dx, fun n hn => ?_, Nat.le_trans (putFd_len f _ fs) few⟩
  obtain ⟨o, e1, e2⟩ := h.nms n hn
  exact ⟨o, on n o hn e1, e2⟩
theorem FdX.putO {P' : Addr → Prop} {H' : Hp} {f : Str} {o : HO} {c c0 : Cn} (s : Same (hidP P H) (hidP P' H')) (hf : f ∈ B.names) (h : ∀ g u, g ∈ B.names → g ≠ f → H (B.ow g) = some u → H' (B.ow g) = some u) (e : H' (B.ow f) = some o) (x : CnX K (hidP P' H') o c) : ∀ {vs : List (Str × V)} {fs : OS}, FdX K P H B vs fs → (fs.map (·.1)).Nodup → fs.lookup f = some (.own c0) → FdX K P' H' B vs (putFd f (.own c) fs)
  | _, _, .nil, _, l => by cases l
  | _, _, .dat (f := g) (v := v) (vs := vs) (d := d) (fs := fs) y r, nd, l => by
    rw [List.lookup_cons] at l
    show FdX K P' H' B ((g, v) :: vs) (if g = f then (g, Fd.own c) :: fs else (g, .dat d) :: putFd f (.own c) fs)
    split at l
    · cases l
    · rename_i q
      rw [if_neg (fun z => by rw [z, beq_self_eq_true] at q; cases q)]
      exact .dat (y.same s) (FdX.putO s hf h e x r (List.nodup_cons.mp nd).2 l)
  | _, _, .own (f := g) (o := o') (vs := vs) (c := c') (fs := fs) n e' y r, nd, l => by
    rw [List.lookup_cons] at l
    show FdX K P' H' B ((g, .ref (B.ow g)) :: vs) (if g = f then (g, Fd.own c) :: fs else (g, .own c') :: putFd f (.own c) fs)
    split at l
    · rename_i q
      obtain rfl := eq_of_beq q
      rw [if_pos rfl]
      have nf := (List.nodup_cons.mp nd).1
      refine .own n e x ?_
      clear l nd
      induction r with
      | nil => exact .nil
      | dat z r ih =>
        rw [List.map_cons, List.mem_cons, not_or] at nf
        exact .dat (z.same s) (ih nf.2)
      | own m e2 z r ih =>
        rw [List.map_cons, List.mem_cons, not_or] at nf
        exact .own m (h _ _ m (Ne.symm nf.1) e2) (z.same s) (ih nf.2)
    · rename_i q
      have ng : g ≠ f := fun z => by rw [z, beq_self_eq_true] at q; cases q
      rw [if_neg ng]
      exact .own n (h _ _ n ng e') (y.same s) (FdX.putO s hf h e x r (List.nodup_cons.mp nd).2 l)
/-- a thing of its own is changed -/
theorem ObAt.setO (h : ObAt K B fs P H) {f : Str} {o : HO} {c c0 : Cn} (l : fs.lookup f = some (.own c0)) (nd : (fs.map (·.1)).Nodup) (y : CnX K (hidP P H) o c) (foot : ∀ a, B.foot a → P a) : ObAt K B (putFd f (.own c) fs) P (upd H (B.ow f) o) := by
  obtain ⟨vs, e, x⟩ := h.ex
  obtain ⟨hf, _, _⟩ := x.o l
  have s : Same (hidP P H) (hidP P (upd H (B.ow f) o)) := hidP_same fun b u e _ n => ⟨n, by rw [upd_ne (fun z => n (foot b (.inr (.inr ⟨f, hf, z.symm⟩))))]; exact e⟩
  refine ⟨⟨vs, by rw [upd_ne (Ne.symm (B.apa f hf).1)]; exact e, FdX.putO s hf (fun g u hg ne e1 => by rw [upd_ne (fun z => ne (B.inj g hg f hf z))]; exact e1) upd_same (y.same s) x nd l⟩, by rw [upd_ne (Ne.symm (B.apa f hf).2)]; exact h.dx, fun n hn => ?_, ?_⟩
  · by_cases z : n = f
    · subst z
      exact ⟨o, upd_same, y.hd⟩
    · obtain ⟨u, e1, e2⟩ := h.nms n hn
      exact ⟨u, by rw [upd_ne (fun q => z (B.inj n hn f hf q))]; exact e1, e2⟩
  · have few := h.few
    have : ∀ fs : OS, fs.lookup f = some (.own c0) → (putFd f (.own c) fs).length = fs.length := fun fs => by
      induction fs with
      | nil => intro l; cases l
      | cons p r ih =>
        obtain ⟨g, y⟩ := p
        intro l
        unfold putFd
        by_cases z : g = f
        · rw [if_pos z]; rfl
        · rw [if_neg z, List.length_cons, List.length_cons]
          rw [List.lookup_cons, beq_false_of_ne (Ne.symm z)] at l
          rw [ih l]
    rw [this fs l]
    exact few
end
/-! ### rules -/
section
variable {S : Type} {K : PySem.W.Frag} {A : Am S} {B : Ob} {F : Addr → Prop} {H0 : Hp} {O : Nat → Addr} {σ : L2.St} {H : Hp} {τ : En × S}
abbrev LO (A : Am S) (K : PySem.W.Frag) (B : Ob) := Lens A (AmO K B)
theorem Stt.ob (st : Stt K A F H0 O σ H τ) (L : LO A K B) : ObAt K B (L.get τ.2) (hidn F O τ.1) H := L.at_ _ _ _ st.am
theorem Stt.obFoot (st : Stt K A F H0 O σ H τ) (L : LO A K B) : ∀ a, B.foot a → hidn F O τ.1 a := fun a f => .inl (st.fin a (L.foot a f))
/-- behind a change of the object alone -/
theorem Stt.obSet (st : Stt K A F H0 O σ H τ) (L : LO A K B) {fs : OS} {a : Addr} {o : HO} (ha : B.foot a) (am : ObAt K B fs (hidn F O τ.1) (upd H a o)) : Stt K A F H0 O σ (upd H a o) (τ.1, L.put τ.2 fs) ∧ Keep F O τ.1 H O τ.1 (upd H a o) :=
  st.call L am fun b u e n _ => by rw [upd_ne (fun z => n (by rw [z]; exact ha))]; exact e
theorem Stt.slot (st : Stt K A F H0 O σ H τ) {i : Nat} {a : Addr} (h : τ.1[i]? = some (.dat (.ptr a))) : σ[i]? = some (some (.ref a)) := by
  obtain ⟨v, h1, h2⟩ := st.dat i _ h
  rw [h1, h2.ptrI]
def selfK (B : Ob) (τ : En × S) (i : Nat) (k : Prop) : Prop := τ.1[i]? = some (.dat (.ptr B.a)) ∧ k
def fdD (fs : OS) (f : Str) (k : Dt → Prop) : Prop := match fs.lookup f with
  | some (.dat d) => k d
  | _ => False
theorem fdD_some {fs : OS} {f : Str} {k : Dt → Prop} (h : fdD fs f k) : ∃ d, fs.lookup f = some (.dat d) ∧ k d := by
  unfold fdD at h
  split at h
  · exact ⟨_, by assumption, h⟩
  · exact h.elim
theorem fdD_mono {fs : OS} {f : Str} {k k' : Dt → Prop} (m : ∀ d, k d → k' d) (h : fdD fs f k) : fdD fs f k' := by
  obtain ⟨d, e, h⟩ := fdD_some h
  unfold fdD
  rw [e]
  exact m _ h
def fdO (fs : OS) (f : Str) (k : Cn → Prop) : Prop := match fs.lookup f with
  | some (.own c) => k c
  | _ => False
theorem fdO_some {fs : OS} {f : Str} {k : Cn → Prop} (h : fdO fs f k) : ∃ d, fs.lookup f = some (.own d) ∧ k d := by
  unfold fdO at h
  split at h
  · exact ⟨_, by assumption, h⟩
  · exact h.elim
theorem fdO_mono {fs : OS} {f : Str} {k k' : Cn → Prop} (m : ∀ d, k d → k' d) (h : fdO fs f k) : fdO fs f k' := by
  obtain ⟨d, e, h⟩ := fdO_some h
  unfold fdO
  rw [e]
  exact m _ h
/-- self.f, data -/
def wFld (L : LO A K B) (i : Nat) (f : Str) : WE S := ⟨fun τ k => selfK B τ i (fdD (L.get τ.2) f fun d => k d τ), fun τ k k' m h => ⟨h.1, fdD_mono (fun d => m d τ) h.2⟩⟩
/-- self.f = e -/
def wFset (L : LO A K B) (i : Nat) (f : Str) (e : WE S) : WS S := ⟨fun τ k => e.f τ fun d τ1 => selfK B τ1 i ((L.get τ1.2).length < 100 ∧ k .nx (τ1.1, L.put τ1.2 (putFd f (.dat d) (L.get τ1.2)))), fun τ k k' m h => e.mono _ _ _ (fun d τ1 h1 => ⟨h1.1, h1.2.1, m _ _ h1.2.2⟩) h⟩
/-- self.f += n -/
def wFadd (L : LO A K B) (i : Nat) (f : Str) (n : Int) : WS S := ⟨fun τ k => selfK B τ i (fdD (L.get τ.2) f fun d => match d with | .int m => (L.get τ.2).length < 100 ∧ k .nx (τ.1, L.put τ.2 (putFd f (.dat (.int (m + n))) (L.get τ.2))) | _ => False),
  fun τ k k' m h => ⟨h.1, fdD_mono (fun d h => by
    revert h
    split
    · exact fun h => ⟨h.1, m _ _ h.2⟩
    · exact id) h.2⟩⟩
end
section
variable {S : Type} {X : Cx} {K : PySem.W.Frag} {A : Am S} {B : Ob} {o e value : Expr} {f : Str} {pos pos' tpos apos cpos : Pos} {w : WE S} {i : Nat}
theorem d_fld (L : LO A K B) (hv : PE X e (tVar i)) (c : Cls X.K B.C) (n : NoAttr X.K B.C f) (hb : attributeBase e f X.env (eval e X.env) = eval e X.env := by rfl) : PE X (.Attribute e f pos) (tE K A (wFld L i f)) :=
  PE.imp (pe_fld hv hb) fun σ H Q ⟨F, H0, O, τ, st, hs, q⟩ => by
    obtain ⟨d, hd, q⟩ := fdD_some q
    obtain ⟨vs, e1, x⟩ := (st.ob L).ex
    obtain ⟨v, hv, y⟩ := x.d hd
    exact ⟨_, st.slot hs, B.a, B.C, B.dx, vs, v, rfl, e1, c, n, hv, q H v O st (Same.refl _) y⟩
theorem s_fset (L : LO A K B) (hv : PE X o (tVar i)) (he : PE X value (tE K A w)) (c : Cls X.K B.C) (n : NoAttr X.K B.C f) (hs : swapsWith value (some (.Attribute o f pos')) pos.line X.env = pure false := by rfl) : PS X (.Assign [.Attribute o f pos'] value pos) (tS K A (wFset L i f w)) :=
  PS.imp (ps_fld hv he hs) fun D σ H ⟨F, H0, O, τ, st, q⟩ => bindE st q fun H1 v O1 d τ1 s1 k1 x1 ⟨hs, few, q1⟩ => by
    obtain ⟨vs, e1, x⟩ := (s1.ob L).ex
    have lv : vs.length < 1000 := by rw [x.len]; omega
    obtain ⟨s2, k2⟩ := s1.obSet L (.inl rfl) ((s1.ob L).setD e1 x (f := f) x1 (s1.obFoot L) few)
    exact ⟨_, s1.slot hs, B.a, B.C, B.dx, vs, rfl, e1, c, n, lv, q1 σ _ O1 s2 (k1.trans k2)⟩
theorem s_fadd (L : LO A K B) {n : Int} (hv : PE X o (tVar i)) (he : PE X value (tC (.int n))) (c : Cls X.K B.C) (na : NoAttr X.K B.C f) : PS X (.AugAssign (.Attribute o f tpos) .Add value pos) (tS K A (wFadd L i f n)) :=
  PS.imp (ps_fldaug hv he in_add) fun D σ H ⟨F, H0, O, τ, st, hs, q⟩ => by
    obtain ⟨d, hd, q⟩ := fdD_some q
    obtain ⟨vs, e1, x⟩ := (st.ob L).ex
    obtain ⟨v, hv, y⟩ := x.d hd
    split at q
    · rename_i m
      obtain ⟨few, q⟩ := q
      obtain rfl := y.intI
      have lv : vs.length < 1000 := by rw [x.len]; omega
      obtain ⟨s2, k2⟩ := st.obSet L (.inl rfl) ((st.ob L).setD e1 x (f := f) (v := .int (m + n)) (.int _) (st.obFoot L) few)
      exact ⟨_, st.slot hs, B.a, B.C, B.dx, vs, _, rfl, e1, c, na, hv, m, n, rfl, rfl, B.dx, vs, e1, lv, q σ _ O s2 k2⟩
    · exact q.elim
end
end DL
/-! part DL25 -/
namespace DL
open PySem PySem.Spec PyProof.Rows L2 My
/-! ### things of an object's own -/
def putT (ps : List (List Key × Dt)) (k : List Key) (d : Dt) : List (List Key × Dt) := if (ps.any fun p => decide (p.1 = k)) = true then ps.map (fun p => if p.1 = k then (p.1, d) else p) else ps ++ [(k, d)]
theorem DXt.snoc {K : PySem.W.Frag} {H : Hp} {k : List Key} {v : V} {d : Dt} (x : DX K H v d) : ∀ {vs : List (List Key × V)} {ps : List (List Key × Dt)}, DXt K H vs ps → DXt K H (vs ++ [(k, v)]) (ps ++ [(k, d)])
  | _, _, .nil => .cons x .nil
  | _, _, .cons y r => .cons y (DXt.snoc x r)
theorem DXt.repl {K : PySem.W.Frag} {H : Hp} {k : List Key} {v : V} {d : Dt} (x : DX K H v d) : ∀ {vs : List (List Key × V)} {ps : List (List Key × Dt)}, DXt K H vs ps → DXt K H (vs.map fun p => if p.1 = k then (p.1, v) else p) (ps.map fun p => if p.1 = k then (p.1, d) else p)
  | _, _, .nil => .nil
  | _, _, .cons (k := j) y r => by
    rw [List.map_cons, List.map_cons]
    by_cases e : j = k
    · rw [if_pos e, if_pos e]
      exact .cons x (DXt.repl x r)
    · rw [if_neg e, if_neg e]
      exact .cons y (DXt.repl x r)
theorem DXt.any {K : PySem.W.Frag} {H : Hp} {k : List Key} : ∀ {vs : List (List Key × V)} {ps : List (List Key × Dt)}, DXt K H vs ps → (vs.any fun p => decide (p.1 = k)) = ps.any fun p => decide (p.1 = k)
  | _, _, .nil => rfl
  | _, _, .cons y r => by rw [List.any_cons, List.any_cons, DXt.any r]
theorem DXt.put {K : PySem.W.Frag} {H : Hp} {k : List Key} {v : V} {d : Dt} (x : DX K H v d) {vs : List (List Key × V)} {ps : List (List Key × Dt)} (r : DXt K H vs ps) : DXt K H (putK vs k v) (putT ps k d) := by
  unfold putK putT
  rw [r.any]
  split
  · exact r.repl x
  · exact r.snoc x
theorem DXt.len {K : PySem.W.Frag} {H : Hp} : ∀ {vs : List (List Key × V)} {ps : List (List Key × Dt)}, DXt K H vs ps → vs.length = ps.length
  | _, _, .nil => rfl
  | _, _, .cons _ r => by rw [List.length_cons, List.length_cons, DXt.len r]
theorem putK_len' (kvs : List (List Key × V)) (k : List Key) (v : V) : (putK kvs k v).length ≤ kvs.length + 1 := by
  unfold putK
  split
  · rw [List.length_map]
    omega
  · rw [List.length_append, List.length_singleton]
    exact Nat.le_refl _
/-- a tuple's key, at its address -/
theorem keyAt {K : PySem.W.Frag} {H : Hp} {v : V} {d : Dt} {ks : List Key} (x : DX K H v d) (h : keyD d = some ks) : ∃ b, v = .ref b ∧ H b = some (.tup (ks.map kV)) := by
  cases d with
  | tup ds =>
    cases x with
    | tup t1 t2 t3 => exact ⟨_, rfl, by rw [t1, keyDs_v t3 h]⟩
  | _ => cases h
section
variable {S : Type} {A : Am S} {K : PySem.W.Frag} {B : Ob}
def fdL (fs : OS) (f : Str) (k : List Dt → Prop) : Prop := fdO fs f fun c => match c with | .lst ds => k ds | _ => False
theorem fdL_some {fs : OS} {f : Str} {k : List Dt → Prop} (h : fdL fs f k) : ∃ ds, fs.lookup f = some (.own (.lst ds)) ∧ k ds := by
  obtain ⟨c, e, h⟩ := fdO_some h
  cases c with
  | lst ds => exact ⟨ds, e, h⟩
  | _ => exact h.elim
theorem fdL_mono {fs : OS} {f : Str} {k k' : List Dt → Prop} (m : ∀ ds, k ds → k' ds) (h : fdL fs f k) : fdL fs f k' := fdO_mono (fun c h => by
  cases c with
  | lst ds => exact m _ h
  | _ => exact h.elim) h
def fdT (fs : OS) (f : Str) (k : List (List Key × Dt) → Prop) : Prop := fdO fs f fun c => match c with | .dt ps => k ps | _ => False
theorem fdT_some {fs : OS} {f : Str} {k : List (List Key × Dt) → Prop} (h : fdT fs f k) : ∃ ds, fs.lookup f = some (.own (.dt ds)) ∧ k ds := by
  obtain ⟨c, e, h⟩ := fdO_some h
  cases c with
  | dt ds => exact ⟨ds, e, h⟩
  | _ => exact h.elim
theorem fdT_mono {fs : OS} {f : Str} {k k' : List (List Key × Dt) → Prop} (m : ∀ ds, k ds → k' ds) (h : fdT fs f k) : fdT fs f k' := fdO_mono (fun c h => by
  cases c with
  | dt ds => exact m _ h
  | _ => exact h.elim) h
def optKs (o : Option (List Key)) (k : List Key → Prop) : Prop := match o with | some c => k c | none => False
theorem optKs_some {o : Option (List Key)} {k : List Key → Prop} (h : optKs o k) : ∃ c, o = some c ∧ k c := by
  cases o with
  | none => exact h.elim
  | some c => exact ⟨c, rfl, h⟩
theorem optKs_mono {o : Option (List Key)} {k k' : List Key → Prop} (m : ∀ c, k c → k' c) (h : optKs o k) : optKs o k' := by
  cases o with
  | none => exact h
  | some c => exact m _ h
abbrev NDf (fs : OS) : Prop := (fs.map (·.1)).Nodup
/-- self.f.append(e) -/
def wFapp (L : LO A K B) (i : Nat) (f : Str) (e : WE S) : WS S := ⟨fun τ k => selfK B τ i (fdL (L.get τ.2) f fun _ => e.f τ fun d τ1 => selfK B τ1 i (NDf (L.get τ1.2) ∧ fdL (L.get τ1.2) f fun ds => ds.length < 1000000 ∧ k .nx (τ1.1, L.put τ1.2 (putFd f (.own (.lst (ds ++ [d]))) (L.get τ1.2))))),
  fun τ k k' m h => ⟨h.1, fdL_mono (fun _ h => e.mono _ _ _ (fun d τ1 h1 => ⟨h1.1, h1.2.1, fdL_mono (fun ds h2 => ⟨h2.1, m _ _ h2.2⟩) h1.2.2⟩) h) h.2⟩⟩
/-- self.f.pop() -/
def wFpop (L : LO A K B) (i : Nat) (f : Str) : WE S := ⟨fun τ k => selfK B τ i (NDf (L.get τ.2) ∧ fdL (L.get τ.2) f fun ds => optK ds.getLast? fun d => k d (τ.1, L.put τ.2 (putFd f (.own (.lst ds.dropLast)) (L.get τ.2)))),
  fun τ k k' m h => ⟨h.1, h.2.1, fdL_mono (fun ds h => optK_mono (fun d h => m _ _ h) h) h.2.2⟩⟩
/-- while self.f -/
def wFtru (L : LO A K B) (i : Nat) (f : Str) : WT S := ⟨fun τ k => selfK B τ i (fdL (L.get τ.2) f fun ds => k (!ds.isEmpty) τ), fun τ k k' m h => ⟨h.1, fdL_mono (fun ds h => m _ _ h) h.2⟩⟩
/-- self.f[i] = e -/
def wFput (L : LO A K B) (i : Nat) (f : Str) (ek ev : WE S) : WS S := ⟨fun τ k => ev.f τ fun v τ1 => selfK B τ1 i (fdT (L.get τ1.2) f fun _ => ek.f τ1 fun kd τ2 => selfK B τ2 i (NDf (L.get τ2.2) ∧ fdT (L.get τ2.2) f fun ps => optKs (keyD kd) fun ks => ps.length < 1000000 ∧ k .nx (τ2.1, L.put τ2.2 (putFd f (.own (.dt (putT ps ks v))) (L.get τ2.2))))),
  fun τ k k' m h => ev.mono _ _ _ (fun v τ1 h1 => ⟨h1.1, fdT_mono (fun _ h2 => ek.mono _ _ _ (fun kd τ2 h3 => ⟨h3.1, h3.2.1, fdT_mono (fun ps h4 => optKs_mono (fun ks h5 => ⟨h5.1, m _ _ h5.2⟩) h4) h3.2.2⟩) h2) h1.2⟩) h⟩
/-- self.f[i] -/
def wFget (L : LO A K B) (i : Nat) (f : Str) (ek : WE S) : WE S := ⟨fun τ k => selfK B τ i (fdT (L.get τ.2) f fun _ => ek.f τ fun kd τ1 => fdT (L.get τ1.2) f fun ps => optKs (keyD kd) fun ks => optK (valD ps ks) fun d => k d τ1),
  fun τ k k' m h => ⟨h.1, fdT_mono (fun _ h => ek.mono _ _ _ (fun kd τ1 h1 => fdT_mono (fun ps h2 => optKs_mono (fun ks h3 => optK_mono (fun d => m _ _) h3) h2) h1) h) h.2⟩⟩
end
section
variable {S : Type} {X : Cx} {K : PySem.W.Frag} {A : Am S} {B : Ob} {o e : Expr} {f : Str} {pos pos' apos cpos fpos : Pos} {w wk wv : WE S} {i : Nat}
theorem s_fapp (L : LO A K B) (hv : PE X o (tVar i)) (c : Cls X.K B.C) (n : NoAttr X.K B.C f) (ha : PE X e (tE K A w)) (hK : X.K = K := by rfl) (hb : attributeBase o f X.env (eval o X.env) = eval o X.env := by rfl) (hbase : attributeBase (.Attribute o f fpos) "append" X.env (eval (.Attribute o f fpos) X.env) = eval (.Attribute o f fpos) X.env := by rfl)
    (hfew : ((backTo cpos (starEach (e :: []) X.env)).all (fun x => !x.1) && (backToKw cpos (keywordEach [] X.env)).all (fun x => x.1.isSome) && decide ((e :: []).length + ([] : List Keyword).length + (if ([] : List Keyword).isEmpty then 0 else 1) < 30)) = true := by rfl)
    (hline : (apos.endLine == cpos.line) = true := by rfl) (hs : starEach (e :: []) X.env = (false, eval e X.env) :: starEach [] X.env := by rfl) (hplain : (backTo cpos (starEach [] X.env)).any (·.1) = false := by rfl) (hsw : swapsWith (.Call (.Attribute (.Attribute o f fpos) "append" apos) [e] [] cpos) none pos.line X.env = pure false := by rfl) :
    PS X (.Expr (.Call (.Attribute (.Attribute o f fpos) "append" apos) [e] [] cpos) pos) (tS K A (wFapp L i f w)) := by
  subst hK
  refine PS.imp (ps_expr (pe_bm PySem.F.plainAttrs_list PySem.F.slot_list_append PySem.F.type_list_append mt_append (pe_fld hv hb) (pa_cons ha pa_nil hs) hbase hfew hline hs hplain) hsw) fun D σ H ⟨F, H0, O, τ, s0, hs0, q⟩ => ?_
  obtain ⟨ds0, l0, q⟩ := fdL_some q
  obtain ⟨vs0, e0, x0⟩ := (s0.ob L).ex
  obtain ⟨_, hl0, o0, g0, c0⟩ := x0.o l0
  obtain ⟨us0, rfl, _, _⟩ := c0.l
  refine ⟨_, s0.slot hs0, B.a, B.C, B.dx, vs0, _, rfl, e0, c, n, hl0, .inl ⟨rfl, _, .inl (.inl g0)⟩, bindE s0 q fun H1 v O1 d τ1 s1 k1 x1 ⟨hs1, nd, q1⟩ => ?_⟩
  obtain ⟨ds, l1, lt, q1⟩ := fdL_some q1
  obtain ⟨vs1, e1, y1⟩ := (s1.ob L).ex
  obtain ⟨hf, _, o1, g1, c1⟩ := y1.o l1
  obtain ⟨us, rfl, lu, xs⟩ := c1.l
  have lv : us.length = ds.length := xs.len
  refine ⟨B.ow f, us, v, rfl, rfl, g1, by unfold sizeLine; omega, ?_⟩
  obtain ⟨s2, k2⟩ := s1.obSet L (.inr (.inr ⟨f, hf, rfl⟩)) ((s1.ob L).setO (o := .lst (us ++ [v])) (c := .lst (ds ++ [d])) l1 nd (.lst (by rw [List.length_append, List.length_singleton]; omega) (xs.append (.cons x1 .nil))) (s1.obFoot L))
  exact q1 _ _ O1 s2 (k1.trans k2)
theorem d_fpop (L : LO A K B) (hv : PE X o (tVar i)) (c : Cls X.K B.C) (n : NoAttr X.K B.C f) (hK : X.K = K := by rfl) (hb : attributeBase o f X.env (eval o X.env) = eval o X.env := by rfl) (hbase : attributeBase (.Attribute o f fpos) "pop" X.env (eval (.Attribute o f fpos) X.env) = eval (.Attribute o f fpos) X.env := by rfl) (hline : (apos.endLine == cpos.line) = true := by rfl) :
    PE X (.Call (.Attribute (.Attribute o f fpos) "pop" apos) [] [] cpos) (tE K A (wFpop L i f)) := by
  subst hK
  refine PE.imp (pe_bm0 PySem.F.plainAttrs_list PySem.F.slot_list_pop PySem.F.type_list_pop mt_pop (pe_fld hv hb) hbase hline) fun σ H Q ⟨F, H0, O, τ, s0, hs0, nd, q⟩ => ?_
  obtain ⟨ds, l0, q⟩ := fdL_some q
  obtain ⟨d, hd, q⟩ := some_of q
  obtain ⟨vs0, e0, x0⟩ := (s0.ob L).ex
  obtain ⟨hf, hl0, o0, g0, c0⟩ := x0.o l0
  obtain ⟨us, rfl, lu, xs⟩ := c0.l
  obtain ⟨v, hv, xv⟩ := xs.last hd
  have lv := List.length_dropLast (xs := us)
  obtain ⟨s2, k2⟩ := s0.obSet L (.inr (.inr ⟨f, hf, rfl⟩)) ((s0.ob L).setO (o := .lst us.dropLast) (c := .lst ds.dropLast) l0 nd (.lst (by omega) xs.dropLast) (s0.obFoot L))
  exact ⟨_, s0.slot hs0, B.a, B.C, B.dx, vs0, _, rfl, e0, c, n, hl0, .inl ⟨rfl, _, .inl (.inl g0)⟩, B.ow f, us, v, rfl, rfl, g0, hv, q _ v O s2 k2 (xv.same k2)⟩
theorem t_ftru (L : LO A K B) (hv : PE X o (tVar i)) (c : Cls X.K B.C) (n : NoAttr X.K B.C f) (hK : X.K = K := by rfl) (hb : attributeBase o f X.env (eval o X.env) = eval o X.env := by rfl) (he : ∀ whole, isTrue (.Attribute o f fpos) X.env whole = (do let v ← whole; standAt (Expr.Attribute o f fpos).pos; holding [v] (truthy v)) := by intro _; rfl) : PT X (.Attribute o f fpos) (tTs K A (wFtru L i f)) := by
  subst hK
  refine PT.imp (pt_truth (pe_fld hv hb) he) fun σ H Q ⟨F, H0, O, τ, s0, hs0, q⟩ => ?_
  obtain ⟨ds, l0, q⟩ := fdL_some q
  obtain ⟨vs0, e0, x0⟩ := (s0.ob L).ex
  obtain ⟨hf, hl0, o0, g0, c0⟩ := x0.o l0
  obtain ⟨us, rfl, lu, xs⟩ := c0.l
  refine ⟨_, s0.slot hs0, B.a, B.C, B.dx, vs0, _, rfl, e0, c, n, hl0, _, .inl ⟨us, .inl (.inl g0), rfl⟩, ?_⟩
  have : us.isEmpty = ds.isEmpty := by
    have := xs.len
    cases us <;> cases ds <;> simp_all
  rw [this]
  exact q H O s0 (Same.refl _)
theorem s_fput {ik value : Expr} (L : LO A K B) (hu : X.A.units + 1 < cLine) (hv : PE X o (tVar i)) (c : Cls X.K B.C) (n : NoAttr X.K B.C f) (hk : PE X ik (tE K A wk)) (he : PE X value (tE K A wv)) (hb : attributeBase o f X.env (eval o X.env) = eval o X.env := by rfl)
    (hs : swapsWith value (some (.Subscript (.Attribute o f fpos) ik pos')) pos.line X.env = pure false := by rfl) : PS X (.Assign [.Subscript (.Attribute o f fpos) ik pos'] value pos) (tS K A (wFput L i f wk wv)) :=
  PS.imp (ps_dput hu (pe_fld hv hb) hk he hs) fun D σ H ⟨F, H0, O, τ, s0, q⟩ => bindE s0 q fun H1 v O1 d τ1 s1 k1 x1 ⟨hs1, q1⟩ => by
    obtain ⟨ps1, l1, q1⟩ := fdT_some q1
    obtain ⟨vs1, e1, y1⟩ := (s1.ob L).ex
    obtain ⟨_, hl1, o1, g1, c1⟩ := y1.o l1
    refine ⟨_, s1.slot hs1, B.a, B.C, B.dx, vs1, _, rfl, e1, c, n, hl1, bindE s1 q1 fun H2 kv O2 kd τ2 s2 k2 x2 ⟨hs2, nd, q2⟩ => ?_⟩
    obtain ⟨ps, l2, q2⟩ := fdT_some q2
    obtain ⟨ks, ek, lt, q2⟩ := optKs_some q2
    obtain ⟨vs2, e2, y2⟩ := (s2.ob L).ex
    obtain ⟨hf, _, o2, g2, c2⟩ := y2.o l2
    cases c2 with
    | @dt kvs _ lk xs =>
      obtain ⟨b, rfl, hb'⟩ := keyAt x2 ek
      have lv := xs.len
      obtain ⟨s3, k3⟩ := s2.obSet L (.inr (.inr ⟨f, hf, rfl⟩)) ((s2.ob L).setO (o := .dT (putK kvs ks v)) (c := .dt (putT ps ks d)) l2 nd (.dt (by have := putK_len' kvs ks v; omega) (xs.put (x1.same k2))) (s2.obFoot L))
      exact ⟨_, _, rfl, DPut.t g2 (hidP_less _ _ hb') (by unfold sizeLine; omega), q2 σ _ O2 s3 (k1.trans (k2.trans k3))⟩
theorem d_fget {ik : Expr} (L : LO A K B) (hu : X.A.units + 1 < cLine) (hv : PE X o (tVar i)) (c : Cls X.K B.C) (n : NoAttr X.K B.C f) (hk : PE X ik (tE K A wk)) (hb : attributeBase o f X.env (eval o X.env) = eval o X.env := by rfl) (hs : NoSl ik := by exact fun _ _ => rfl) : PE X (.Subscript (.Attribute o f fpos) ik pos) (tE K A (wFget L i f wk)) :=
  PE.imp (pe_dget hu (pe_fld hv hb) hk hs) fun σ H Q ⟨F, H0, O, τ, s0, hs0, q⟩ => by
    obtain ⟨ps0, l0, q⟩ := fdT_some q
    obtain ⟨vs0, e0, y0⟩ := (s0.ob L).ex
    obtain ⟨_, hl0, o0, g0, c0⟩ := y0.o l0
    refine ⟨_, s0.slot hs0, B.a, B.C, B.dx, vs0, _, rfl, e0, c, n, hl0, bindE s0 q fun H2 kv O2 kd τ2 s2 k2 x2 q2 => ?_⟩
    obtain ⟨ps, l2, q2⟩ := fdT_some q2
    obtain ⟨ks, ek, q2⟩ := optKs_some q2
    obtain ⟨d, hd, q2⟩ := some_of q2
    obtain ⟨vs2, e2, y2⟩ := (s2.ob L).ex
    obtain ⟨hf, _, o2, g2, c2⟩ := y2.o l2
    cases c2 with
    | @dt kvs _ lk xs =>
      obtain ⟨b, rfl, hb'⟩ := keyAt x2 ek
      have w := valD_x ks xs
      rw [hd] at w
      generalize hg : valV kvs ks = ov at w
      cases w with
      | some xx => exact ⟨_, _, rfl, by rw [← hg]; exact DGet.t g2 (hidP_less _ _ hb'), q2 H2 _ O2 s2 k2 xx⟩
end
end DL
/-! part DL26 -/
/-! ### a star in a target; methods -/
namespace PySem
open PyProof.Rows
theorem WalksS.shift {prog : Program} {w : World} {A : Around} {I : Addr} {fp wr : List Addr} {G : Array GenState → Array GenState → Prop} {n : Nat} {P : Nat → Value → Prop} {St : Nat → Shared → Prop} (W : WalksS prog w A I fp wr G n P St) (k : Nat) (h : k ≤ n) : WalksS prog w A I fp wr G (n - k) (fun i => P (i + k)) (fun i => St (i + k)) where
  sub := W.sub
  grefl := W.grefl
  gtrans := W.gtrans
  frame i s h' tk st := W.frame (i + k) s h' tk st
  item i s Q E hi st hQ := W.item (i + k) s Q E (by omega) st fun v s' hp st' m => hQ v s' hp (by rw [show i + 1 + k = i + k + 1 by omega]; exact st') m
  done s Q E st hQ := W.done s Q E (by rw [show n - k + k = n by omega] at st; exact st) hQ
  self i s Q E st := W.self (i + k) s Q E st
section
variable {prog : Program} {w : World} {A : Around} {E : Value → Shared → Prop} {s : Shared}
/-- x, *y = a tuple -/
theorem unpackStar1 {t : Addr} {items : Array Value} {Q : List Value → Shared → Prop} (hh : A.handled = none) (ht : IsTup s.heap t items) (h1 : 1 ≤ items.size) (hz : items.size ≤ sizeLine)
    (hQ : ∀ (hp : Heap) tk, (∀ b o, s.heap.get? b = some o → hp.get? b = some o) → Q (items.toList.take 1 ++ [.ref hp.objs.size]) { s with heap := hp.push { cls := .type "list", data := .seq (items.toList.drop 1).toArray }, toks := tk }) : wpAny (model prog w) A (unpackItems (.ref t) 2 (some 1)) Q E s := by
  have hlt : t ≠ s.heap.objs.size := by obtain ⟨o, ho, _⟩ := ht; exact Nat.ne_of_lt (Heap.lt_size ho)
  unfold unpackItems
  refine wpAny_bind ?_
  unfold notIterableAtAll
  refine wpAny_bind (wpAny_specialOf ht.typeIs slot_tuple_iter.lookup ?_)
  refine wpAny_pure ?_
  simp only [Bool.false_eq_true, if_false]
  refine wpAny_bind (wpAny_holding (iter_tuple ht ?_))
  refine wpAny_bind (wpAny_holding (draw_tuple hlt 1 0 _ _ ⟨_, Heap.get?_push_size _ rfl, rfl, rfl⟩ (ht.push _) (by omega) fun h₁ hit₁ hs₁ => ?_))
  rw [List.drop_zero]
  have lt1 : (items.toList.take 1).length = 1 := by rw [List.length_take, Array.length_toList]; omega
  rw [if_neg (by rw [lt1]; decide)]
  have ht₁ : IsTup h₁ t items := (ht.push _).extBut hs₁.extBut hlt
  have keep1 : ∀ b o, s.heap.get? b = some o → h₁.get? b = some o := fun b o e => hs₁.extBut b o (Nat.ne_of_lt (Heap.lt_size e)) (Heap.get?_push_of_some _ e)
  have W := (Walks.tuple (prog := prog) (w := w) (A := A.in1) hh s.heap.objs.size t hlt items).toS.shift 1 h1
  refine wpAny_bind (wpAny_holding (wpAny_collect_iter (.inr (.inr (.inr rfl))) W (fun i s' st => st.1.typeIs) ⟨hit₁, ht₁⟩ (fun b hb => ?_) List.mem_cons_self (fun s' acc m it => ?_) (by omega)))
  · rcases List.mem_cons.mp hb with rfl | hb
    · obtain ⟨o, ho, _⟩ := hit₁
      exact Heap.lt_size ho
    · obtain rfl := List.mem_singleton.mp hb
      obtain ⟨o, ho, _⟩ := ht₁
      exact Heap.lt_size ho
  · have eacc : acc.toList = items.toList.drop 1 := by
      refine List.ext_getElem? fun j => ?_
      rw [Array.getElem?_toList, List.getElem?_drop, Array.getElem?_toList]
      cases hj : acc[j]? with
      | none =>
        have l1 := Array.getElem?_eq_none_iff.mp hj
        have l2 := it.1
        rw [Array.getElem?_eq_none (by omega)]
      | some v =>
        have := it.2 j v hj
        rw [show 1 + j = j + 1 by omega]
        exact this.symm
    rw [eacc]
    have ld : (items.toList.drop 1).length = items.size - 1 := by rw [List.length_drop, Array.length_toList]
    simp only [show (2 : Nat) - 1 - 1 = 0 from rfl]
    rw [if_neg (Nat.not_lt_zero _)]
    simp only [Nat.sub_zero, List.take_length, List.drop_length, List.append_nil]
    obtain ⟨hp, g, d, tk, os⟩ := s'
    have e1 : g = s.gens := m.gens
    have e2 : d = s.drawn := m.drawn
    have e3 : os = s.os := m.os
    subst e1
    subst e2
    subst e3
    have keep2 : ∀ b o, s.heap.get? b = some o → hp.get? b = some o := fun b o e => m.heap b o (fun hb => by
      have := Heap.lt_size e
      rw [List.mem_singleton.mp hb] at this
      exact Nat.lt_irrefl _ this) (keep1 b o e)
    refine wpAny_bind (wpAny_newList (hsz := by rw [ld]; omega) ?_)
    refine wpAny_pure ?_
    exact hQ hp tk keep2
end
end PySem
namespace DL
open PySem PySem.Spec PyProof.Rows L2 My
/-- x, *y -/
def gStar1 (K : PySem.W.Frag) (t : TGs) : TG := fun v σ H Q => ∃ a x xs, v = .ref a ∧ SqT K H a (x :: xs) ∧ ∀ l, H l = none → t [x, .ref l] σ (upd H l (.lst xs)) Q
section
variable {X : Cx} {e1 e2 : Expr} {k : Nat} {p3 pos : Pos} {t : TGs}
theorem pg_star1 (hc : X.calm = true) (h : PGs X [e1, e2] t) (hn : (assignEach [e1, .Starred e2 p3] X.env).map (·.2) = (assignEach [e1, e2] X.env).map (·.2) := by rfl) (hl : (assignEach [e1, .Starred e2 p3] X.env).length = 2 := by rfl) (hst : (assignEach [e1, .Starred e2 p3] X.env).findIdx? (·.1) = some 1 := by rfl) : PG X (.Tuple [e1, .Starred e2 p3] k pos) (gStar1 X.K t) := by
  refine ⟨fun pins s σ H v u Q I r ⟨a, x, xs, ev, hq, hw⟩ => ?_⟩
  subst ev
  cases r
  obtain ⟨its, rv, ht, hz⟩ := I.tuple hq
  rw [assign_Tuple]
  refine wpAny_bind (wpAny_standAt ?_)
  unfold unpack
  rw [hl, hst, hn]
  cases rv with
  | @cons _ y _ ys rx rxs =>
    have hs : ys.length + 1 ≤ sizeLine := by
      have e := rxs.length
      rw [List.length_cons] at hz
      omega
    refine wpAny_bind (wpAny_holding (unpackStar1 (I.ok.hd hc) ht (by simp) (by simpa using hs) fun hp tk kp => ?_))
    have el : List.take 1 (y :: ys).toArray.toList ++ [Value.ref hp.objs.size] = [y, .ref hp.objs.size] := by simp
    rw [el]
    have I1 : Inv X pins σ H { s with heap := hp, toks := tk } := I.kept kp
    have nl : H hp.objs.size = none := I1.hok.fresh (Nat.le_refl _)
    have I2 : Inv X pins σ (upd H hp.objs.size (.lst xs)) { s with heap := hp.push { cls := .type "list", data := .seq ((y :: ys).toArray.toList.drop 1).toArray }, toks := tk } := I1.laid (t' := tk) (fun b o e => Heap.get?_push_of_some _ e) (Nat.le_refl _) (show ObjOk X.prog X.w _ _ _ (.lst xs) from ⟨by rw [rxs.length]; omega, ys, 0, rxs, by simpa using Heap.get?_push_size hp (o := { cls := .type "list", data := .seq ((y :: ys).toArray.toList.drop 1).toArray }) rfl⟩)
    exact h.run pins _ σ _ [x, .ref hp.objs.size] [y, .ref hp.objs.size] Q I2 (.cons rx (.cons rfl .nil)) (hw _ nl)
end
end DL
/-! part DL27 -/
namespace DL
open PySem PySem.Spec PyProof.Rows L2 My
/-! ### x, *y = e -/
section
variable {S : Type}
def wAsgStar (i j : Nat) (w : WE S) : WS S := ⟨fun τ k => w.f τ fun d τ1 => match d with
    | .tup (x :: xs) => i < τ1.1.length ∧ j < τ1.1.length ∧ xs.length ≤ 1000000 ∧ k .nx ((τ1.1.set i (.dat x)).set j (.dat (.lst xs)), τ1.2)
    | _ => False, fun τ k k' m h => w.mono _ _ _ (fun d τ1 h1 => by
  revert h1
  split
  · exact fun h => ⟨h.1, h.2.1, h.2.2.1, m _ _ h.2.2.2⟩
  · exact id) h⟩
variable {X : Cx} {K : PySem.W.Frag} {A : Am S} {e : Expr} {x y : Str} {i j k : Nat} {p1 p2 p3 pos' pos : Pos} {w : WE S}
theorem s_asgStar (nd : X.N.Nodup) (hi : X.N[i]? = some x) (hj : X.N[j]? = some y) (lx : Loc X.env.scope x) (ly : Loc X.env.scope y) (he : PE X e (tE K A w)) (hc : X.calm = true := by rfl) (hK : X.K = K := by rfl)
    (hf : X.fn x = true ∨ X.env.scope.names.lookup x = some .local := by first | exact .inl rfl | exact .inr rfl | assumption) (hg : X.fn y = true ∨ X.env.scope.names.lookup y = some .local := by first | exact .inl rfl | exact .inr rfl | assumption)
    (hs : swapsWithSole [.Tuple [.Name x p1, .Starred (.Name y p2) p3] k pos'] e pos.line X.env = pure false := by rfl) (hw : swappedStores [.Tuple [.Name x p1, .Starred (.Name y p2) p3] k pos'] e X.env = pure none := by rfl) (h1 : (assignEach [.Tuple [.Name x p1, .Starred (.Name y p2) p3] k pos'] X.env).map (·.2) = [assign (.Tuple [.Name x p1, .Starred (.Name y p2) p3] k pos') X.env] := by rfl) :
    PS X (.Assign [.Tuple [.Name x p1, .Starred (.Name y p2) p3] k pos'] e pos) (tS K A (wAsgStar i j w)) := by
  subst hK
  refine PS.imp (ps_asg he (pg_star1 hc (pgs_cons (pg_name nd hi lx hf) (pgs_cons (pg_name nd hj ly hg) pgs_nil))) hs hw h1) fun D σ H ⟨F, H0, O, τ, s0, q⟩ => bindE s0 q fun H1 v O1 d τ1 s1 k1 x1 q1 => ?_
  split at q1
  · rename_i d0 ds
    obtain ⟨l1, l2, l3, q1⟩ := q1
    obtain ⟨a, vs, rfl, g1, g2, g3⟩ := x1.tupI
    cases g3 with
    | @cons v vs _ _ xv xr =>
      refine ⟨a, v, vs, rfl, hidT g1, fun l nl => ⟨v, _, rfl, ⟨.ref l, _, rfl, ⟨rfl, ?_⟩⟩⟩⟩
      have s2 := s1.grow (same_new nl (.lst vs))
      have kp := keepS (F := F) (O := O1) (ρ := τ1.1) (same_new nl (.lst vs))
      have li : i < σ.length := by rw [← s1.len]; exact l1
      have lj : j < (σ.set i (some v)).length := by rw [List.length_set, ← s1.len]; exact l2
      have s3 := s2.setDat li (xv.same kp)
      have k3 := s2.setKeep i (.dat d0) fun ds z => nomatch z
      have xl : DX X.K (hidP (hidn F O1 τ1.1) (upd H1 l (.lst vs))) (.ref l) (.lst ds) := .lst (hidP_mk (s1.fresh nl) upd_same fun ps z => nomatch z) (by rw [xr.len]; exact l3) (xr.same kp)
      have s4 := s3.setDat lj (xl.same k3)
      have k4 := s3.setKeep j (.dat (.lst ds)) fun ds z => nomatch z
      exact q1 _ _ O1 s4 (k1.trans (kp.trans (k3.trans k4)))
  · exact q1.elim
end
/-! ### methods -/
section
variable {S S' : Type}
def wMeth {A : Am S} {A' : Am S'} {K : PySem.W.Frag} {B : Ob} (L : LO A K B) (L' : Lens A A') (i : Nat) (m : Str) (wf : WF S') (a : WA S) : WE S := ⟨fun τ k => selfK B τ i ((L.get τ.2).lookup m = none ∧ a.f τ fun ds τ1 => wf.f (.ptr B.a :: ds) (L'.get τ1.2) (ansK fun d s' => k d (τ1.1, L'.put τ1.2 s'))),
  fun τ k k' mm h => ⟨h.1, h.2.1, a.mono _ _ _ (fun ds τ1 h1 => wf.mono _ _ _ _ (ansK_mono fun d s' h2 => mm _ _ h2) h1) h.2.2⟩⟩
variable {X : Cx} {K : PySem.W.Frag} {A : Am S} {A' : Am S'} {B : Ob} {o e : Expr} {es : List Expr} {m : Str} {f : Addr} {fd : FuncData} {ps : List Str} {wf : WF S'} {wa : WA S} {apos pos p : Pos} {k n i : Nat}
theorem DX.ptrM {K : PySem.W.Frag} {H : Hp} {a : Addr} : DX K H (.ref a) (.ptr a) := .sp rfl
theorem d_meth (L : LO A K B) (L' : Lens A A') {pl : Sem Bool} (hv : PE X o (tVar i)) (c : Cls X.K B.C) (hm : Meth X.K B.C m f) (Fn : FnOk X.prog X.w X.K X.mg X.base CX0 k f fd ps (spD K A' n wf)) (hr : Room k X.A) (hb : Binds X.K fd ps []) (ha : PA X (e :: es) (tAs K A wa)) (hn : (e :: es).length + 1 = n)
    (hl : ∀ τ k, wa.f τ k → wa.f τ fun ds τ1 => ds.length = (e :: es).length ∧ k ds τ1)
    (hst : starEach (e :: es) X.env = (false, eval e X.env) :: starEach es X.env := by rfl) (hpl : (backTo pos (starEach es X.env)).any (·.1) = false := by rfl)
    (ht : eval (.Call (.Attribute o m apos) (e :: es) [] pos) X.env = (do
      let ov ← eval o X.env
      standAt apos.atName
      let (f, first) ← holding [ov] (getMethod ov m pl)
      callWith pos f first (backTo pos (starEach (e :: es) X.env)) (backToKw pos (keywordEach [] X.env))) := by rfl) :
    PE X (.Call (.Attribute o m apos) (e :: es) [] pos) (tE K A (wMeth L L' i m wf wa)) :=
  PE.imp (pe_meth (E := fun _ _ _ => False) hv c hm Fn hr hb .nil pass0 ha hst hpl ht) fun σ H Q ⟨F, H0, O, τ, st, hs, hnone, q⟩ => by
    obtain ⟨vs, e1, x⟩ := (st.ob L).ex
    refine ⟨_, st.slot hs, B.a, B.dx, vs, rfl, e1, x.none hnone, bindA st (hl _ _ q) fun H1 vs O1 ds τ1 s1 k1 x1 ⟨l1, q1⟩ => ?_⟩
    rw [List.append_nil]
    refine ask (L := L') s1 (.cons DX.ptrM x1) (by rw [List.length_cons, x1.len, l1, hn]) (wf.mono _ _ _ _ (ansK_mono fun d s' h H' v O' s2 k2 x2 => h H' v O' s2 (k1.trans k2) x2) q1)
theorem d_meth0 (L : LO A K B) (L' : Lens A A') {pl : Sem Bool} (hv : PE X o (tVar i)) (c : Cls X.K B.C) (hm : Meth X.K B.C m f) (Fn : FnOk X.prog X.w X.K X.mg X.base CX0 k f fd ps (spD K A' 1 wf)) (hr : Room k X.A) (hb : Binds X.K fd ps [])
    (ht : eval (.Call (.Attribute o m apos) [] [] pos) X.env = (do
      let ov ← eval o X.env
      standAt apos.atName
      let (f, first) ← holding [ov] (getMethod ov m pl)
      callWith pos f first (backTo pos (starEach [] X.env)) (backToKw pos (keywordEach [] X.env))) := by rfl) :
    PE X (.Call (.Attribute o m apos) [] [] pos) (tE K A (wMeth L L' i m wf wNil)) :=
  PE.imp (pe_meth0 (E := fun _ _ _ => False) hv c hm Fn hr hb .nil pass0 ht) fun σ H Q ⟨F, H0, O, τ, st, hs, hnone, q⟩ => by
    obtain ⟨vs, e1, x⟩ := (st.ob L).ex
    refine ⟨_, st.slot hs, B.a, B.dx, vs, rfl, e1, x.none hnone, ?_⟩
    exact ask (L := L') (n := 1) (vs := [.ref B.a]) (E := fun _ _ _ => False) st (.cons DX.ptrM .nil) rfl q
/-- o.m( *e), e a list or tuple -/
theorem pe_methSL {g : Addr} {sp : Sp} {E : XK} {ta te : TE} {CX : CXT} {C : Addr} (he : PE X o ta) (c : Cls X.K C) (b : BMeth X.K C m g) (Fn : FnR X.prog X.w X.K X.mg X.base CX k g sp) (hr : Room k X.A) (hx : Passes CX X E) (ha : PE X e te) (hbase : attributeBase o m X.env (eval o X.env) = eval o X.env := by rfl) :
    PE X (.Call (.Attribute o m apos) [.Starred e p] [] pos) (fun σ H Q => ta σ H fun x H1 => ∃ a dx fs, x = .ref a ∧ H1 a = some (.ins C dx fs) ∧ fs.lookup m = none ∧ ∀ q, H1 q = none → te σ (upd H1 q (.met g a)) fun y H2 => ∃ t vs, y = .ref t ∧ (SqT X.K H2 t vs ∨ SqL X.K H2 t vs) ∧ H2 q = some (.met g a) ∧ sp (.ref a :: vs) H2 Q E) := by
  refine ⟨fun pins s σ H Q I h => starcall_of hbase (thn (he.run pins s σ H _ I h) fun u s1 ⟨x, H1, I1, rx, a, dx, fs, ex, ea, l, q⟩ => ?_)⟩
  cases ex
  cases rx
  refine getbound_ok I1 ea c b l fun q1 s2 hq1 I2 => PySem.W.ks_call (P := PySem.W.MethP X.K q1 g (.ref a)) rfl (PySem.W.keeps_M b.fi) (PySem.W.ks_lone (thn (ha.run pins s2 σ _ _ I2 (q q1 hq1)) fun v s3 ⟨y, H2, I3, ry, t, vs, ey, hseq, hmet, hsp⟩ => ?_))
  cases ey
  cases ry
  refine StX.star_any I3 hseq fun us s4 I4 rv => ⟨met_P I4 hmet, wpAny_call (PySem.W.method_call (met_P I4 hmet).1 (run_fnR (us := Value.ref a :: us) (vs := V.ref a :: vs) Fn hr hx I4 (.cons rfl rv) hsp))⟩
def wMethS {A : Am S} {A' : Am S'} {K : PySem.W.Frag} {B : Ob} (L : LO A K B) (L' : Lens A A') (i : Nat) (m : Str) (n : Nat) (wf : WF S') (a : WE S) : WE S := ⟨fun τ k => selfK B τ i ((L.get τ.2).lookup m = none ∧ a.f τ fun d τ1 => optL (seqD d) fun ds => ds.length + 1 = n ∧ wf.f (.ptr B.a :: ds) (L'.get τ1.2) (ansK fun d s' => k d (τ1.1, L'.put τ1.2 s'))),
  fun τ k k' mm h => ⟨h.1, h.2.1, a.mono _ _ _ (fun d τ1 h1 => optL_mono (fun ds h2 => ⟨h2.1, wf.mono _ _ _ _ (ansK_mono fun d s' h3 => mm _ _ h3) h2.2⟩) h1) h.2.2⟩⟩
theorem d_methS {w : WE S} (L : LO A K B) (L' : Lens A A') (hv : PE X o (tVar i)) (c : Cls X.K B.C) (hm : BMeth X.K B.C m f) (Fn : FnOk X.prog X.w X.K X.mg X.base CX0 k f fd ps (spD K A' n wf)) (hr : Room k X.A) (hb : Binds X.K fd ps []) (ha : PE X e (tE K A w)) (hK : X.K = K := by rfl)
    (hbase : attributeBase o m X.env (eval o X.env) = eval o X.env := by rfl) : PE X (.Call (.Attribute o m apos) [.Starred e p] [] pos) (tE K A (wMethS L L' i m n wf w)) := by
  subst hK
  refine PE.imp (pe_methSL (E := fun _ _ _ => False) hv c hm (Fn.raw hb .nil) hr pass0 ha hbase) fun σ H Q ⟨F, H0, O, τ, st, hs, hnone, q⟩ => ?_
  obtain ⟨vs, e1, x⟩ := (st.ob L).ex
  refine ⟨_, st.slot hs, B.a, B.dx, vs, rfl, e1, x.none hnone, fun r nr => ?_⟩
  have sm := same_new nr (.met f B.a)
  have st' := st.grow sm
  have kp := keepS (F := F) (O := O) (ρ := τ.1) sm
  have nh := st.fresh nr
  refine bindE st' q fun H1 v O1 d τ1 s1 k1 x1 q1 => ?_
  obtain ⟨ds, e2, ln, q2⟩ := optL_some q1
  have hmet : H1 r = some (.met f B.a) := hidP_less _ _ (k1 _ _ (hidP_mk nh upd_same fun ps z => nomatch z))
  have fin : ∀ (t : Addr) (us : List V), v = .ref t → (SqT X.K H1 t us ∨ SqL X.K H1 t us) → DXs X.K (hidP (hidn F O1 τ1.1) H1) us ds → ∃ t us, v = V.ref t ∧ (SqT X.K H1 t us ∨ SqL X.K H1 t us) ∧ H1 r = some (.met f B.a) ∧ spD X.K A' n wf ((.ref B.a :: us) ++ []) H1 Q (fun _ _ _ => False) := fun t us ev h xs =>
    ⟨t, us, ev, h, hmet, by
      rw [List.append_nil]
      exact ask (L := L') s1 (.cons DX.ptrM xs) (by rw [List.length_cons, xs.len, ln]) (wf.mono _ _ _ _ (ansK_mono fun d s' h H' v O' s2 k2 x2 => h H' v O' s2 (kp.trans (k1.trans k2)) x2) q2)⟩
  cases d with
  | lst ds' =>
    cases e2
    obtain ⟨a, us, rfl, g1, _, g3⟩ := x1.lstI
    exact fin a us rfl (.inr (hidL g1)) g3
  | tup ds' =>
    cases e2
    obtain ⟨a, us, rfl, g1, _, g3⟩ := x1.tupI
    exact fin a us rfl (.inl (hidT g1)) g3
  | _ => cases e2
end
/-! ### for i in reversed(range(n)) -/
section
variable {S : Type} {X : Cx} {K : PySem.W.Frag} {A : Am S} {tg a : Expr} {p p2 pos pos2 : Pos} {wa : WE S}
def wRevR (a : WE S) : WA S := ⟨fun τ k => a.f τ fun d τ1 => match d with | .int n => (-(2 ^ 62) ≤ n ∧ n < 2 ^ 62) ∧ k (((List.range n.toNat).map fun i => Dt.int (i : Nat)).reverse) τ1 | _ => False, fun τ k k' m h => a.mono _ _ _ (fun d τ1 h1 => by
  revert h1
  split
  · exact fun h => ⟨h.1, m _ _ h.2⟩
  · exact id) h⟩
theorem i_revR (hg : Gl X "reversed") (hm : X.mg "reversed" = none) (hg2 : Gl X "range") (hm2 : X.mg "range" = none) (ha : PE X a (tE K A wa)) (hs : starEach [.Call (.Name "range" p2) [a] [] pos2] X.env = (false, eval (.Call (.Name "range" p2) [a] [] pos2) X.env) :: starEach [] X.env := by rfl) (na : starEach [a] X.env = (false, eval a X.env) :: starEach [] X.env := by rfl) :
    PI X tg (.Call (.Name "reversed" p) [.Call (.Name "range" p2) [a] [] pos2] [] pos) (tIt K A (wRevR wa)) :=
  PI.imp (pi_revR hg hm (prg_1 hg2 hm2 ha na) hs) fun σ H R ⟨F, H0, O, τ, st, q⟩ => bindE st q fun H1 v O1 d τ1 s1 k1 x1 q1 => by
    split at q1
    · rename_i n
      obtain rfl := x1.intI
      obtain ⟨⟨b1, b2⟩, q1⟩ := q1
      refine ⟨n, rfl, by decide, by decide, b1, b2, q1 H1 O1 _ s1 k1 ⟨_, _, _, walk_rangeC, by rw [List.length_reverse, List.length_map, List.length_range, Int.sub_zero], fun _ _ _ => trivial, fun i H' v H'' P hi s nP y => ?_⟩⟩
      obtain ⟨rfl, rfl⟩ := y
      refine ⟨Same.refl _, fun d hd => ?_⟩
      rw [Int.sub_zero] at hi
      rw [List.getElem?_reverse (by rw [List.length_map, List.length_range]; exact hi), List.length_map, List.length_range, List.getElem?_map, List.getElem?_range (by omega)] at hd
      cases hd
      show DX K (hidP P H'') (V.int (0 + (((n - 0).toNat : Nat) : Int) - 1 + (i : Nat) * (-1))) (Dt.int ((n.toNat - 1 - i : Nat) : Int))
      rw [Int.sub_zero, show (0 + ((n.toNat : Nat) : Int) - 1 + (i : Int) * (-1)) = ((n.toNat - 1 - i : Nat) : Int) by omega]
      exact .int _
    · exact q1.elim
end
end DL
/-! part DL28 -/
namespace DL
open PySem PySem.Spec PyProof.Rows L2 My LamX NdefX
/-! ### a bound method as a value -/
abbrev metB (g a : Addr) : Stab := ⟨fun H b => H b = some (.met g a), fun _ _ b s h => s b _ h⟩
abbrev Dt.met (g a : Addr) : Dt := .sp (metB g a)
theorem DX.metI {K : PySem.W.Frag} {H : Hp} {v : V} {g a : Addr} (x : DX K H v (.met g a)) : ∃ q, v = .ref q ∧ H q = some (.met g a) := by
  cases x with
  | sp h => exact ⟨_, rfl, h⟩
section
variable {S S' : Type}
section
variable {X : Cx} {x : Str} {i k : Nat} {g : Addr} {fd : FuncData} {ps : List Str} {sp : Sp} {t : TA} {e : Expr} {es : List Expr} {p pos : Pos}
/-- x(e, ..), x a name that holds a bound method -/
theorem pe_callM (Fn : FnOk X.prog X.w X.K X.mg X.base CX0 k g fd ps sp) (hr : Room k X.A) (hf : PySem.W.fnIn X.K g = true) (hb : Binds X.K fd ps []) (hN : X.N[i]? = some x) (hv : Vis X.env.scope x) (ha : PA X (e :: es) t)
    (hd : (x == ("__debug__" : Str)) = false := by decide) (hcd : (x == ("__classdict__" : Str)) = false := by decide)
    (he : starEach (e :: es) X.env = (false, eval e X.env) :: starEach es X.env := by rfl) (hpl : (backTo pos (starEach es X.env)).any (·.1) = false := by rfl) :
    PE X (.Call (.Name x p) (e :: es) [] pos) (fun σ H Q => ∃ q a, σ[i]? = some (some (.ref q)) ∧ t σ H fun vs H1 => H1 q = some (.met g a) ∧ sp (.ref a :: vs) H1 Q E0) := by
  refine ⟨fun pins s σ H Q I h => ?_⟩
  obtain ⟨q, a, hs, ht⟩ := h
  refine wpAny_Call_Name_kw (thn ((pe_var (pos := p) (i := i) hN hv hd hcd).run pins s σ H (fun v H1 => v = .ref q ∧ H1 = H) I ⟨.ref q, hs, rfl, rfl⟩) fun u s1 ⟨v, H1, I1, r1, q1⟩ => ?_)
  obtain ⟨ev, eH⟩ := q1
  subst ev
  rw [eH] at I1
  obtain rfl : u = Value.ref q := r1
  have h' := ha.run pos pins s1 σ H _ I1 ht
  rw [he] at h'
  show wpAny _ _ (callWith pos (.ref q) [] (backTo pos (starEach (e :: es) X.env)) []) _ _ s1
  rw [he]
  refine PySem.W.callWith_of (P := PySem.W.MethP X.K q g (.ref a)) (by show ((false || (backTo pos (starEach es X.env)).any (·.1)) || false) = false; rw [hpl]; rfl) (PySem.W.keeps_M hf) (Calls.evalArgs_plain (thn h' fun us s2 ⟨vs, H2, I2, r, hm, hsp⟩ => ⟨met_P I2 hm, ?_⟩))
  refine wpAny_call (PySem.W.method_call (met_P I2 hm).1 ?_)
  exact run_fnR (us := Value.ref a :: us) (vs := V.ref a :: vs) (Fn.raw hb .nil) hr pass0 I2 (.cons rfl r) (by rw [List.append_nil]; exact hsp)
end
def wCallM {A : Am S} {A' : Am S'} (L : Lens A A') (i : Nat) (g a : Addr) (wf : WF S') (wa : WA S) : WE S := ⟨fun τ k => τ.1[i]? = some (.dat (.met g a)) ∧ wa.f τ fun ds τ1 => wf.f (.ptr a :: ds) (L.get τ1.2) (ansK fun d s' => k d (τ1.1, L.put τ1.2 s')),
  fun τ k k' m h => ⟨h.1, wa.mono _ _ _ (fun ds τ1 h1 => wf.mono _ _ _ _ (ansK_mono fun d s' h2 => m _ _ h2) h1) h.2⟩⟩
section
variable {X : Cx} {K : PySem.W.Frag} {A : Am S} {A' : Am S'} {x : Str} {i k n : Nat} {g a : Addr} {fd : FuncData} {ps : List Str} {wf : WF S'} {wa : WA S} {e : Expr} {es : List Expr} {p pos : Pos}
theorem d_callM (L : Lens A A') (Fn : FnOk X.prog X.w X.K X.mg X.base CX0 k g fd ps (spD K A' n wf)) (hr : Room k X.A) (hf : PySem.W.fnIn X.K g = true) (hb : Binds X.K fd ps []) (hN : X.N[i]? = some x) (hv : Vis X.env.scope x) (ha : PA X (e :: es) (tAs K A wa)) (hn : (e :: es).length + 1 = n)
    (hl : ∀ τ k, wa.f τ k → wa.f τ fun ds τ1 => ds.length = (e :: es).length ∧ k ds τ1)
    (hd : (x == ("__debug__" : Str)) = false := by decide) (hcd : (x == ("__classdict__" : Str)) = false := by decide)
    (he : starEach (e :: es) X.env = (false, eval e X.env) :: starEach es X.env := by rfl) (hpl : (backTo pos (starEach es X.env)).any (·.1) = false := by rfl) :
    PE X (.Call (.Name x p) (e :: es) [] pos) (tE K A (wCallM L i g a wf wa)) :=
  PE.imp (pe_callM Fn hr hf hb hN hv ha hd hcd he hpl) fun σ H Q ⟨F, H0, O, τ, st, hs, q⟩ => by
    obtain ⟨v, h1, h2⟩ := st.dat i _ hs
    obtain ⟨r, rfl, hm⟩ := h2.metI
    refine ⟨r, a, h1, bindA st (hl _ _ q) fun H1 vs O1 ds τ1 s1 k1 x1 ⟨l1, q1⟩ => ⟨hidP_less _ _ (k1 _ _ hm), ?_⟩⟩
    exact ask (L := L) s1 (.cons DX.ptrM x1) (by rw [List.length_cons, x1.len, l1, hn]) (wf.mono _ _ _ _ (ansK_mono fun d s' h H' v O' s2 k2 x2 => h H' v O' s2 (k1.trans k2) x2) q1)
end
end
/-! ### o.m as a value -/
section
variable {X : Cx} {o : Expr} {m : Str} {C g : Addr} {ta : TE} {pos : Pos}
theorem pe_bmv (he : PE X o ta) (c : Cls X.K C) (b : BMeth X.K C m g) (hb : attributeBase o m X.env (eval o X.env) = eval o X.env) : PE X (.Attribute o m pos) (fun σ H Q => ta σ H fun x H1 => ∃ a dx fs, x = .ref a ∧ H1 a = some (.ins C dx fs) ∧ fs.lookup m = none ∧ ∀ q, H1 q = none → Q (.ref q) (upd H1 q (.met g a))) := by
  refine ⟨fun pins s σ H Q I h => ?_⟩
  refine attr_of hb (thn (he.run pins s σ H _ I h) fun u s1 ⟨x, H1, I1, rx, a, dx, fs, ex, ea, l, q⟩ => ?_)
  subst ex
  obtain rfl : u = Value.ref a := rx
  exact getbound_ok I1 ea c b l fun q1 s2 hq1 I2 => ⟨.ref q1, _, I2, rfl, q q1 hq1⟩
end
section
variable {S : Type}
def wBmv {A : Am S} {K : PySem.W.Frag} {B : Ob} (L : LO A K B) (i : Nat) (m : Str) (g : Addr) : WE S := ⟨fun τ k => selfK B τ i ((L.get τ.2).lookup m = none ∧ k (.met g B.a) τ), fun τ k k' mm h => ⟨h.1, h.2.1, mm _ _ h.2.2⟩⟩
variable {X : Cx} {K : PySem.W.Frag} {A : Am S} {B : Ob} {o : Expr} {m : Str} {g : Addr} {pos : Pos} {i : Nat}
theorem d_bmv (L : LO A K B) (hv : PE X o (tVar i)) (c : Cls X.K B.C) (b : BMeth X.K B.C m g) (hb : attributeBase o m X.env (eval o X.env) = eval o X.env := by rfl) : PE X (.Attribute o m pos) (tE K A (wBmv L i m g)) :=
  PE.imp (pe_bmv hv c b hb) fun σ H Q ⟨F, H0, O, τ, st, hs, hn, q⟩ => by
    obtain ⟨vs, e1, x⟩ := (st.ob L).ex
    refine ⟨_, st.slot hs, B.a, B.dx, vs, rfl, e1, x.none hn, fun r nr => ?_⟩
    have sm := same_new nr (.met g B.a)
    exact q _ _ O (st.grow sm) (keepS (F := F) (O := O) (ρ := τ.1) sm) (.sp (hidP_mk (st.fresh nr) upd_same fun ps z => nomatch z))
end
/-! ### g(e, e, lambda) -/
section
variable {X : Cx} {x a1 a2 a3 : Str} {g c P : Addr} {fd : FuncData} {st : Stmt} {Ng fr2 : List Str} {k : Nat} {pr2 : Arguments} {b2 e0 e1 : Expr} {sc2 : Scope} {lp2 p pos : Pos} {js2 : List Nat} {t0 t1 : TE} {R : L2.St → V → V → Addr → Addr → Hp → VK → Prop}
theorem pe_call1L (hg : Gl X x) (hm : X.mg x = some (.ref g)) (Fg : Fun X.K x x st g fd) (Sg : FnScope Ng [a1, a2, a3] (defScope st)) (hb : Binds X.K fd [a1, a2, a3] []) (TB : TabB X.base X.mg c P) (hcode : X.env.code = .ref c) (hr : Room (k + 1) X.A)
    (Lb : LamFree X sc2 fr2 js2) (hd2 : defaultsOf pr2 X.env = ([], [])) (h0 : PE X e0 t0) (h1 : PE X e1 t1)
    (hbody : ∀ (σ : L2.St) (f2 c2 : Addr) (s : Shared) (H : Hp) (v0 v1 : V) (Q : VK) (cdv : Value), LamHere X σ s H pr2 b2 sc2 fr2 js2 f2 c2 → Room k (X.A.deeper (envOfC x (defScope st) s.heap.objs.size g cdv)) → R σ v0 v1 f2 c2 H Q →
      ∃ t, PSs (cxOf CX0 X.prog X.w X.K X.mg X.base Ng x (defScope st) g cdv X.A X.stack s H E0).nox (defBody st) t ∧ t { nx := fun _ H' => Q .non H', rt := Q } (L2.start Ng [v0, v1, .ref f2]) H)
    (hdb : (x == ("__debug__" : Str)) = false := by decide)
    (he1 : ((false, eval e1 X.env) :: backTo pos (starEach [.Lambda pr2 b2 sc2 lp2] X.env)) = backTo pos (starEach [e1, .Lambda pr2 b2 sc2 lp2] X.env) := by rfl)
    (he : starEach (e0 :: [e1, .Lambda pr2 b2 sc2 lp2]) X.env = (false, eval e0 X.env) :: starEach [e1, .Lambda pr2 b2 sc2 lp2] X.env := by rfl) (hpl : (backTo pos (starEach [e1, .Lambda pr2 b2 sc2 lp2] X.env)).any (·.1) = false := by rfl) :
    PE X (.Call (.Name x p) [e0, e1, .Lambda pr2 b2 sc2 lp2] [] pos) (fun σ H Q => t0 σ H fun v0 H1 => t1 σ H1 fun v1 H2 => TabS H2 P (X.env.qual ++ "<lambda>") ∧ ∀ f2 c2 H3, ButP P H2 H3 → TabS H3 P (X.env.qual ++ "<lambda>") → H3 c2 = some (CodeO c2 (X.env.qual ++ "<lambda>")) → R σ v0 v1 f2 c2 H3 Q) := by
  refine ⟨fun pins s σ H Q I h => ?_⟩
  obtain ⟨oc, od, kV, doc, pm, an, cdv, ct, osl, rfl, lk, hcd⟩ := Fg.ex
  refine wpAny_Call_Name_kw (ld_glob I hg hm ?_ hdb)
  refine PySem.W.callWith_K (h₀ := X.base) I.ok.mod.kin Fg.kp ?_ he hpl
  rw [he]
  show wpAny _ _ (spliced ((false, eval e0 X.env) :: backTo pos (starEach [e1, .Lambda pr2 b2 sc2 lp2] X.env))) _ _ s
  refine Calls.spliced_cons (thn (h0.run pins s σ H _ I h) fun u0 s1 ⟨v0, H1, I1, r0, q0⟩ => ?_)
  rw [← he1]
  refine Calls.spliced_cons (thn (h1.run pins s1 σ H1 _ I1 q0) fun u1 s2 ⟨v1, H2, I2, r1, hT, q⟩ => ?_)
  refine Calls.spliced_cons (lam_mk I2 TB hcode hT hd2 (Lb.has I2.ok) fun f2 c2 o2 H3 s3 I3 B3 T3 e2 n2 k2 => ?_)
  refine Calls.spliced_nil ⟨I3.kIn, ?_⟩
  have pa := I3.pin (f2, o2) (List.mem_append_right _ List.mem_cons_self)
  have lh2 : LamHere X σ s3 H3 pr2 b2 sc2 fr2 js2 f2 c2 := by
    obtain ⟨pm2, ct2, rfl⟩ := e2
    exact ⟨⟨pm2, ct2, pa.1⟩, pa.2.1, n2, cells_of I3 (Caps.made I3.ok Lb.free Lb.inn Lb.js), k2⟩
  have I4 : Inv X pins σ H3 s3 := I3.pins_of fun p hp => I3.pin p (List.mem_append_right _ (List.mem_cons_of_mem _ hp))
  have rv : Vals [v0, v1, .ref f2] [u0, u1, .ref f2] := .cons r0 (.cons r1 (.cons rfl .nil))
  have rc : codeAny (model X.prog X.w) X.A (.call (.ref g) ⟨[u0, u1, .ref f2], []⟩) (CR CX0 X.stack X.prog X.w H3 s3 Q E0) s3 := by
    refine run_ofS (N := Ng) (ps := [a1, a2, a3]) (us := [u0, u1, .ref f2]) lk hcd Sg hr I4.env0 (by have z := hb s3 [u0, u1, .ref f2] I4.kIn rfl; exact z) rv rfl fun hr' => ?_
    obtain ⟨t, ht, hq⟩ := hbody σ f2 c2 s3 H3 v0 v1 Q cdv lh2 hr' (q f2 c2 H3 B3 T3 k2)
    exact ⟨t, ht.nox, hq⟩
  show wpAny _ _ (call (.ref g) [u0, u1, .ref f2]) _ _ _
  refine wpAny_call (codeAny_mono rc fun r s4 hq => ?_)
  cases r with
  | error e => exact (show False from hq).elim
  | ok fl =>
    cases fl with
    | ret u => exact I4.after hq
    | next => exact False.elim hq
    | brk => exact False.elim hq
    | cont => exact False.elim hq
end
section
variable {S : Type}
def wCall1L (js : List Nat) (wfF : En × S → WF S) (w0 w1 : WE S) : WE S := ⟨fun τ k => w0.f τ fun d0 τ1 => w1.f τ1 fun d1 τ2 => (∀ j ∈ js, ∃ d, τ2.1[j]? = some (Sl.dat d)) ∧ ∀ f2 : Addr, (wfF τ2).f [d0, d1, .ptr f2] τ2.2 (ansK fun d' s' => k d' (τ2.1, s')),
  fun τ k k' m h => w0.mono _ _ _ (fun d0 τ1 h0 => w1.mono _ _ _ (fun d1 τ2 h1 => ⟨h1.1, fun f2 => (wfF τ2).mono _ _ _ _ (ansK_mono fun d s' => m d (τ2.1, s')) (h1.2 f2)⟩) h0) h⟩
variable {K : PySem.W.Frag} {X : Cx} {x a1 a2 a3 : Str} {g c P : Addr} {fd : FuncData} {st : Stmt} {Ng fr2 : List Str} {k m : Nat} {pr2 : Arguments} {b2 e0 e1 : Expr} {sc2 : Scope} {lp2 p pos : Pos} {js js2 : List Nat} {A : Am S} {w0 w1 : WE S} {wfF : En × S → WF S}
theorem d_call1L (hg : Gl X x) (hm : X.mg x = some (.ref g)) (Fg : Fun X.K x x st g fd) (Sg : FnScope Ng [a1, a2, a3] (defScope st)) (hb : Binds X.K fd [a1, a2, a3] []) (TB : TabB X.base X.mg c P) (hcode : X.env.code = .ref c) (hr : Room (k + 1) X.A)
    (Lb : LamFree X sc2 fr2 js2) (hd2 : defaultsOf pr2 X.env = ([], [])) (hT : HasTab A P (X.env.qual ++ "<lambda>")) (h0 : PE X e0 (tE K A w0)) (h1 : PE X e1 (tE K A w1)) (hNg : Ng.length = 3 + m)
    (hbody : ∀ (σ : L2.St) (f2 c2 : Addr) (s : Shared) (H : Hp) (us : List V) (ds : List Dt) (τ : En × S) (cdv : Value), LamHere X σ s H pr2 b2 sc2 fr2 js2 f2 c2 → CapD σ τ.1 js us ds → Room k (X.A.deeper (envOfC x (defScope st) s.heap.objs.size g cdv)) →
      ∃ ws, PSs (cxOf CX0 X.prog X.w X.K X.mg X.base Ng x (defScope st) g cdv X.A X.stack s H E0).nox (defBody st) (tS K (AmC A K us ds [(c2, X.env.qual ++ "<lambda>")]) ws) ∧ ∀ d0 d1 (k : Rs → S → Prop), (wfF τ).f [d0, d1, .ptr f2] τ.2 k → ws.f (ent [d0, d1, .ptr f2] m, τ.2) fun r τ' => k r τ'.2)
    (hdb : (x == ("__debug__" : Str)) = false := by decide)
    (he1 : ((false, eval e1 X.env) :: backTo pos (starEach [.Lambda pr2 b2 sc2 lp2] X.env)) = backTo pos (starEach [e1, .Lambda pr2 b2 sc2 lp2] X.env) := by rfl)
    (he : starEach (e0 :: [e1, .Lambda pr2 b2 sc2 lp2]) X.env = (false, eval e0 X.env) :: starEach [e1, .Lambda pr2 b2 sc2 lp2] X.env := by rfl) (hpl : (backTo pos (starEach [e1, .Lambda pr2 b2 sc2 lp2] X.env)).any (·.1) = false := by rfl) :
    PE X (.Call (.Name x p) [e0, e1, .Lambda pr2 b2 sc2 lp2] [] pos) (tE K A (wCall1L js wfF w0 w1)) := by
  refine PE.imp (pe_call1L (R := fun σ v0 v1 f2 c2 H Q => ∃ (F : Addr → Prop) (τ : En × S) (d0 d1 : Dt) (us : List V) (ds : List Dt), CapD σ τ.1 js us ds ∧ spD K (AmC A K us ds [(c2, X.env.qual ++ "<lambda>")]) 3 ⟨fun es s k => s = τ.2 ∧ ∃ d0 d1, es = [d0, d1, .ptr f2] ∧ (wfF τ).f es s k, fun es s k k' m ⟨z, d, d', e, h⟩ => ⟨z, d, d', e, (wfF τ).mono _ _ _ _ m h⟩⟩ [v0, v1, .ref f2] H Q E0)
    hg hm Fg Sg hb TB hcode hr Lb hd2 h0 h1 (fun σ f2 c2 s H v0 v1 Q cdv l2 hr' ⟨F, τ, d0, d1, us, ds, cd, sp⟩ => ?_) hdb he1 he hpl) fun σ H Q ⟨F, H0, O, τ, s0, q⟩ => ?_
  · obtain ⟨ws, hp, hw⟩ := hbody σ f2 c2 s H us ds τ cdv l2 cd hr'
    refine ⟨_, hp, d_start (n := 3) (m := m) (E := E0) sp hNg fun ds s k _ ⟨z, d, d', e, h⟩ => by subst e; subst z; exact hw d d' k h⟩
  · refine bindE s0 q fun H1 v O1 d0 τ1 s1 k1 x1 q1 => bindE s1 q1 fun H2 v' O2 d1 τ2 s2 k2 x2 ⟨hj, q2⟩ => ⟨hT.get _ _ _ s2.am, fun f2 c2 H3 B T3 e2 => ?_⟩
    have ev : EvA A H2 H3 := fun b o e _ nt => B b o (fun z => nt (z ▸ hT.tab)) e
    have nP : ∀ a, hidn F O2 τ2.1 a → a ≠ P := fun a h z => by
      obtain ⟨o, e, hd⟩ := s2.ex h
      obtain ⟨ps, g1, _⟩ := hT.get _ _ _ s2.am
      rw [z, g1] at e
      cases e
      exact hd
    have vis : ∀ c q', H3 c = some (CodeO c q') → ¬ hidn F O2 τ2.1 c := fun c q' e h => by
      obtain ⟨o, e3, hd⟩ := s2.ex h
      rw [B _ _ (nP _ h) e3] at e
      cases e
      exact hd_code hd
    have am3 := hT.put _ _ _ _ s2.am B T3 vis
    obtain ⟨s3, k3⟩ := s2.call (Lens.id A) am3 ev
    obtain ⟨us, ds, cd, xs⟩ := capD_of s3 hj
    refine ⟨hidn F O2 τ2.1, τ2, d0, d1, us, ds, cd, hidn F O2 τ2.1, τ2.2, [d0, d1, .ptr f2], rfl, ⟨am3, xs, fun p hp => ?_⟩, fun a f => s3.finN a f, fun a h => s3.ex h, .cons ((x1.same k2).same k3) (.cons (x2.same k3) (.cons (.sp rfl) .nil)), rfl, d0, d1, rfl, (wfF τ2).mono _ _ _ _ (fun r s' h => ?_) (q2 f2)⟩
    · rcases List.mem_cons.mp hp with rfl | hp
      · exact ⟨vis _ _ e2, e2⟩
      · cases hp
    · cases r with
      | nx => exact fun H' am e => let ⟨s4, k4⟩ := s3.call (Lens.id A) am.1 e; h H' .non O2 s4 (k1.trans (k2.trans (k3.trans k4))) .non
      | rt d => exact fun H' v am e x => let ⟨s4, k4⟩ := s3.call (Lens.id A) am.1 e; h H' v O2 s4 (k1.trans (k2.trans (k3.trans k4))) x
      | rl cn =>
        exact fun H' a o am e n0 ea x =>
          let ⟨s4, k4⟩ := s3.call (Lens.id A) (A.move _ _ _ _ _ am.1 (fun b o e n => ⟨fun z => n (.inl z), e⟩) fun _ _ e _ => e) e
          h H' (.ref a) O2 s4 (k1.trans (k2.trans (k3.trans k4))) ((x.same (hidP_same fun b o e _ n => ⟨fun h => n (.inl h), e⟩)).data (hidP_mk (s3.fresh n0) ea x.hd.ntb))
      | bk => exact h.elim
      | ct => exact h.elim
end
end DL
/-! part K41a -/
namespace Kx
open PySem PySem.Spec PyProof.Rows L2 My
def topS (i : Nat) : Stmt := PySem.Challenge.pw_piercednames_k41_sketches_put_in.main.body.getD i (.Pass ⟨0, 0, 0, 0⟩)
abbrev s_things_of : Stmt := topS 2
abbrev N_things_of : List Str := ["content", "things", "expression", "block"]
theorem sc_things_of : FnScope N_things_of ["content"] (defScope s_things_of) := ⟨rfl, rfl, rfl, by decide +kernel, rfl, by decide +kernel, by decide +kernel⟩
-- slots: 0 content, 1 things, 2 expression, 3 block
abbrev s_definition_things : Stmt := topS 3
abbrev N_definition_things : List Str := ["content", "_", "declaration", "parameters", "block", "things", "parameter"]
theorem sc_definition_things : FnScope N_definition_things ["content"] (defScope s_definition_things) := ⟨rfl, rfl, rfl, by decide +kernel, rfl, by decide +kernel, by decide +kernel⟩
-- slots: 0 content, 1 _, 2 declaration, 3 parameters, 4 block, 5 things, 6 parameter
abbrev s_blocks_of : Stmt := topS 4
abbrev N_blocks_of : List Str := ["content"]
theorem sc_blocks_of : FnScope N_blocks_of ["content"] (defScope s_blocks_of) := ⟨rfl, rfl, rfl, by decide +kernel, rfl, by decide +kernel, by decide +kernel⟩
-- slots: 0 content
abbrev s_declared_by : Stmt := topS 5
abbrev N_declared_by : List Str := ["content"]
theorem sc_declared_by : FnScope N_declared_by ["content"] (defScope s_declared_by) := ⟨rfl, rfl, rfl, by decide +kernel, rfl, by decide +kernel, by decide +kernel⟩
-- slots: 0 content
abbrev s_expressions_of : Stmt := topS 6
abbrev N_expressions_of : List Str := ["content"]
theorem sc_expressions_of : FnScope N_expressions_of ["content"] (defScope s_expressions_of) := ⟨rfl, rfl, rfl, by decide +kernel, rfl, by decide +kernel, by decide +kernel⟩
-- slots: 0 content
abbrev s_leaves_of : Stmt := topS 7
abbrev N_leaves_of : List Str := ["expression", "part"]
theorem sc_leaves_of : FnScope N_leaves_of ["expression"] (defScope s_leaves_of) := ⟨rfl, rfl, rfl, by decide +kernel, rfl, by decide +kernel, by decide +kernel⟩
-- slots: 0 expression, 1 part
abbrev s_parts_of : Stmt := topS 8
abbrev N_parts_of : List Str := ["expression", "parts", "waiting", "part", "sign", "left", "right"]
theorem sc_parts_of : FnScope N_parts_of ["expression"] (defScope s_parts_of) := ⟨rfl, rfl, rfl, by decide +kernel, rfl, by decide +kernel, by decide +kernel⟩
-- slots: 0 expression, 1 parts, 2 waiting, 3 part, 4 sign, 5 left, 6 right
abbrev s_folded : Stmt := topS 9
abbrev N_folded : List Str := ["expression", "at_leaf", "at_sign", "done", "part", "right", "left"]
theorem sc_folded : FnScope N_folded ["expression", "at_leaf", "at_sign"] (defScope s_folded) := ⟨rfl, rfl, rfl, by decide +kernel, rfl, by decide +kernel, by decide +kernel⟩
-- slots: 0 expression, 1 at_leaf, 2 at_sign, 3 done, 4 part, 5 right, 6 left
abbrev s_Numbering : Stmt := topS 11
abbrev s_Numbering__init__ : Stmt := inClass (topS 11) 0
abbrev N_Numbering__init__ : List Str := ["self", "tree", "owner", "start", "word", "rest"]
theorem sc_Numbering__init__ : FnScope N_Numbering__init__ ["self", "tree", "owner", "start"] (defScope s_Numbering__init__) := ⟨rfl, rfl, rfl, by decide +kernel, rfl, by decide +kernel, by decide +kernel⟩
-- slots: 0 self, 1 tree, 2 owner, 3 start, 4 word, 5 rest
abbrev s_Numbering_fresh : Stmt := inClass (topS 11) 1
abbrev N_Numbering_fresh : List Str := ["self", "thing"]
theorem sc_Numbering_fresh : FnScope N_Numbering_fresh ["self"] (defScope s_Numbering_fresh) := ⟨rfl, rfl, rfl, by decide +kernel, rfl, by decide +kernel, by decide +kernel⟩
-- slots: 0 self, 1 thing
abbrev s_Numbering_enter : Stmt := inClass (topS 11) 2
abbrev N_Numbering_enter : List Str := ["self", "block", "rows", "index"]
theorem sc_Numbering_enter : FnScope N_Numbering_enter ["self", "block", "rows"] (defScope s_Numbering_enter) := ⟨rfl, rfl, rfl, by decide +kernel, rfl, by decide +kernel, by decide +kernel⟩
-- slots: 0 self, 1 block, 2 rows, 3 index
abbrev s_Numbering_number_row : Stmt := inClass (topS 11) 3
abbrev N_Numbering_number_row : List Str := ["self", "block", "index", "row", "thing"]
theorem sc_Numbering_number_row : FnScope N_Numbering_number_row ["self", "block", "index", "row"] (defScope s_Numbering_number_row) := ⟨rfl, rfl, rfl, by decide +kernel, rfl, by decide +kernel, by decide +kernel⟩
-- slots: 0 self, 1 block, 2 index, 3 row, 4 thing
abbrev s_Numbering_number_second_half : Stmt := inClass (topS 11) 4
abbrev N_Numbering_number_second_half : List Str := ["self", "row", "rows", "block", "position", "word", "expression", "first", "second"]
theorem sc_Numbering_number_second_half : FnScope N_Numbering_number_second_half ["self", "row", "rows"] (defScope s_Numbering_number_second_half) := ⟨rfl, rfl, rfl, by decide +kernel, rfl, by decide +kernel, by decide +kernel⟩
-- slots: 0 self, 1 row, 2 rows, 3 block, 4 position, 5 word, 6 expression, 7 first, 8 second
abbrev s_Numbering_content : Stmt := inClass (topS 11) 5
abbrev N_Numbering_content : List Str := ["self", "thing", "row", "word", "use", "argument"]
theorem sc_Numbering_content : FnScope N_Numbering_content ["self", "thing", "row"] (defScope s_Numbering_content) := ⟨rfl, rfl, rfl, by decide +kernel, rfl, by decide +kernel, by decide +kernel⟩
-- slots: 0 self, 1 thing, 2 row, 3 word, 4 use, 5 argument
abbrev s_Numbering_definition : Stmt := inClass (topS 11) 6
abbrev N_Numbering_definition : List Str := ["self", "row", "word", "label", "labels", "rows", "declaration", "body", "parameters", "parameter"]
theorem sc_Numbering_definition : FnScope N_Numbering_definition ["self", "row"] (defScope s_Numbering_definition) := ⟨rfl, rfl, rfl, by decide +kernel, rfl, by decide +kernel, by decide +kernel⟩
-- slots: 0 self, 1 row, 2 word, 3 label, 4 labels, 5 rows, 6 declaration, 7 body, 8 parameters, 9 parameter
abbrev s_Numbering_first_half : Stmt := inClass (topS 11) 7
abbrev N_Numbering_first_half : List Str := ["self", "thing", "row", "word", "expression", "first", "second"]
theorem sc_Numbering_first_half : FnScope N_Numbering_first_half ["self", "thing", "row"] (defScope s_Numbering_first_half) := ⟨rfl, rfl, rfl, by decide +kernel, rfl, by decide +kernel, by decide +kernel⟩
-- slots: 0 self, 1 thing, 2 row, 3 word, 4 expression, 5 first, 6 second
abbrev s_Numbering_block : Stmt := inClass (topS 11) 8
abbrev N_Numbering_block : List Str := ["self", "rows", "block"]
theorem sc_Numbering_block : FnScope N_Numbering_block ["self", "rows"] (defScope s_Numbering_block) := ⟨rfl, rfl, rfl, by decide +kernel, rfl, by decide +kernel, by decide +kernel⟩
-- slots: 0 self, 1 rows, 2 block
abbrev s_Numbering_declaration : Stmt := inClass (topS 11) 9
abbrev N_Numbering_declaration : List Str := ["self", "label", "thing"]
theorem sc_Numbering_declaration : FnScope N_Numbering_declaration ["self", "label"] (defScope s_Numbering_declaration) := ⟨rfl, rfl, rfl, by decide +kernel, rfl, by decide +kernel, by decide +kernel⟩
-- slots: 0 self, 1 label, 2 thing
abbrev s_Numbering_use : Stmt := inClass (topS 11) 10
abbrev N_Numbering_use : List Str := ["self", "label", "thing"]
theorem sc_Numbering_use : FnScope N_Numbering_use ["self", "label"] (defScope s_Numbering_use) := ⟨rfl, rfl, rfl, by decide +kernel, rfl, by decide +kernel, by decide +kernel⟩
-- slots: 0 self, 1 label, 2 thing
abbrev s_Numbering_leaf : Stmt := inClass (topS 11) 11
abbrev N_Numbering_leaf : List Str := ["self", "leaf", "thing"]
theorem sc_Numbering_leaf : FnScope N_Numbering_leaf ["self", "leaf"] (defScope s_Numbering_leaf) := ⟨rfl, rfl, rfl, by decide +kernel, rfl, by decide +kernel, by decide +kernel⟩
-- slots: 0 self, 1 leaf, 2 thing
abbrev s_Numbering_expression : Stmt := inClass (topS 11) 12
abbrev N_Numbering_expression : List Str := ["self", "expression"]
theorem sc_Numbering_expression : FnScope N_Numbering_expression ["self", "expression"] (defScope s_Numbering_expression) := ⟨rfl, rfl, rfl, by decide +kernel, rfl, by decide +kernel, by decide +kernel⟩
-- slots: 0 self, 1 expression
abbrev s_sketched : Stmt := topS 13
abbrev N_sketched : List Str := ["sketch", "person", "start", "numbering", "_", "content"]
theorem sc_sketched : FnScope N_sketched ["sketch", "person", "start"] (defScope s_sketched) := ⟨rfl, rfl, rfl, by decide +kernel, rfl, by decide +kernel, by decide +kernel⟩
-- slots: 0 sketch, 1 person, 2 start, 3 numbering, 4 _, 5 content
abbrev s_tree_row : Stmt := topS 14
abbrev N_tree_row : List Str := ["sketch"]
theorem sc_tree_row : FnScope N_tree_row ["sketch"] (defScope s_tree_row) := ⟨rfl, rfl, rfl, by decide +kernel, rfl, by decide +kernel, by decide +kernel⟩
-- slots: 0 sketch
abbrev s__law_draw : Stmt := topS 16
abbrev N__law_draw : List Str := ["_law_box", "_law_many", "_law_cell", "_law_digit", "_law_seed"]
theorem sc__law_draw : FnScope N__law_draw ["_law_box", "_law_many"] (defScope s__law_draw) := ⟨rfl, rfl, rfl, by decide +kernel, rfl, by decide +kernel, by decide +kernel⟩
-- slots: 0 _law_box, 1 _law_many, 2 _law_cell, 3 _law_digit, 4 _law_seed
abbrev s__law_pick : Stmt := topS 17
abbrev N__law_pick : List Str := ["_law_box", "_law_row"]
theorem sc__law_pick : FnScope N__law_pick ["_law_box", "_law_row"] (defScope s__law_pick) := ⟨rfl, rfl, rfl, by decide +kernel, rfl, by decide +kernel, by decide +kernel⟩
-- slots: 0 _law_box, 1 _law_row
abbrev s__law_like : Stmt := topS 18
abbrev N__law_like : List Str := ["_law_found", "_law_due", "_law_one", "_law_other"]
theorem sc__law_like : FnScope N__law_like ["_law_found", "_law_due"] (defScope s__law_like) := ⟨rfl, rfl, rfl, by decide +kernel, rfl, by decide +kernel, by decide +kernel⟩
-- slots: 0 _law_found, 1 _law_due, 2 _law_one, 3 _law_other
abbrev s__law_begin : Stmt := topS 19
abbrev N__law_begin : List Str := ["_law_script", "_law_cells", "_law_cell", "_law_mix"]
theorem sc__law_begin : FnScope N__law_begin ["_law_script"] (defScope s__law_begin) := ⟨rfl, rfl, rfl, by decide +kernel, rfl, by decide +kernel, by decide +kernel⟩
-- slots: 0 _law_script, 1 _law_cells, 2 _law_cell, 3 _law_mix
abbrev s__law_value : Stmt := topS 20
abbrev N__law_value : List Str := ["_law_box"]
theorem sc__law_value : FnScope N__law_value ["_law_box"] (defScope s__law_value) := ⟨rfl, rfl, rfl, by decide +kernel, rfl, by decide +kernel, by decide +kernel⟩
-- slots: 0 _law_box
abbrev s__law_new : Stmt := topS 21
abbrev N__law_new : List Str := ["_law_w"]
theorem sc__law_new : FnScope N__law_new ["_law_w"] (defScope s__law_new) := ⟨rfl, rfl, rfl, by decide +kernel, rfl, by decide +kernel, by decide +kernel⟩
-- slots: 0 _law_w
abbrev s__law_use : Stmt := topS 22
abbrev N__law_use : List Str := ["_law_w", "_law_label", "_law_made"]
theorem sc__law_use : FnScope N__law_use ["_law_w", "_law_label"] (defScope s__law_use) := ⟨rfl, rfl, rfl, by decide +kernel, rfl, by decide +kernel, by decide +kernel⟩
-- slots: 0 _law_w, 1 _law_label, 2 _law_made
abbrev s__law_terms : Stmt := topS 23
abbrev N__law_terms : List Str := ["_law_content"]
theorem sc__law_terms : FnScope N__law_terms ["_law_content"] (defScope s__law_terms) := ⟨rfl, rfl, rfl, by decide +kernel, rfl, by decide +kernel, by decide +kernel⟩
-- slots: 0 _law_content
abbrev s__law_term_things : Stmt := topS 24
abbrev N__law_term_things : List Str := ["_law_term"]
theorem sc__law_term_things : FnScope N__law_term_things ["_law_term"] (defScope s__law_term_things) := ⟨rfl, rfl, rfl, by decide +kernel, rfl, by decide +kernel, by decide +kernel⟩
-- slots: 0 _law_term
abbrev s__law_things : Stmt := topS 25
abbrev N__law_things : List Str := ["_law_content", "_law_word", "_law_found", "_law_term", "_law_own"]
theorem sc__law_things : FnScope N__law_things ["_law_content"] (defScope s__law_things) := ⟨rfl, rfl, rfl, by decide +kernel, rfl, by decide +kernel, by decide +kernel⟩
-- slots: 0 _law_content, 1 _law_word, 2 _law_found, 3 _law_term, 4 _law_own
abbrev s__law_sketch_term : Stmt := topS 26
abbrev N__law_sketch_term : List Str := ["_law_w", "_law_term", "_law_made", "_law_left"]
theorem sc__law_sketch_term : FnScope N__law_sketch_term ["_law_w", "_law_term"] (defScope s__law_sketch_term) := ⟨rfl, rfl, rfl, by decide +kernel, rfl, by decide +kernel, by decide +kernel⟩
-- slots: 0 _law_w, 1 _law_term, 2 _law_made, 3 _law_left
abbrev s__law_sketch : Stmt := topS 27
abbrev N__law_sketch : List Str := ["_law_sketch_z", "_law_person_z", "_law_start_z", "_law_w", "_law_word", "_law_names", "_law_own", "_law_content", "_law_term", "_law_body", "_law_given", "_law_name", "_law_test", "_law_half"]
theorem sc__law_sketch : FnScope N__law_sketch ["_law_sketch_z", "_law_person_z", "_law_start_z"] (defScope s__law_sketch) := ⟨rfl, rfl, rfl, by decide +kernel, rfl, by decide +kernel, by decide +kernel⟩
-- slots: 0 _law_sketch_z, 1 _law_person_z, 2 _law_start_z, 3 _law_w, 4 _law_word, 5 _law_names, 6 _law_own, 7 _law_content, 8 _law_term, 9 _law_body, 10 _law_given, 11 _law_name, 12 _law_test, 13 _law_half
abbrev s__law_any_id : Stmt := topS 28
abbrev N__law_any_id : List Str := ["_law_box"]
theorem sc__law_any_id : FnScope N__law_any_id ["_law_box"] (defScope s__law_any_id) := ⟨rfl, rfl, rfl, by decide +kernel, rfl, by decide +kernel, by decide +kernel⟩
-- slots: 0 _law_box
abbrev s__law_any_term : Stmt := topS 29
abbrev N__law_any_term : List Str := ["_law_box", "_law_deep", "_law_way"]
theorem sc__law_any_term : FnScope N__law_any_term ["_law_box", "_law_deep"] (defScope s__law_any_term) := ⟨rfl, rfl, rfl, by decide +kernel, rfl, by decide +kernel, by decide +kernel⟩
-- slots: 0 _law_box, 1 _law_deep, 2 _law_way
abbrev s__law_any_sketch : Stmt := topS 30
abbrev N__law_any_sketch : List Str := ["_law_box", "_law_way", "_law_name", "_law_term", "_law_own", "_law_k"]
theorem sc__law_any_sketch : FnScope N__law_any_sketch ["_law_box"] (defScope s__law_any_sketch) := ⟨rfl, rfl, rfl, by decide +kernel, rfl, by decide +kernel, by decide +kernel⟩
-- slots: 0 _law_box, 1 _law_way, 2 _law_name, 3 _law_term, 4 _law_own, 5 _law_k
abbrev s_law : Stmt := topS 31
abbrev N_law : List Str := ["_law_script", "_law_box", "_law_turn", "_law_sketch_z", "_law_owner", "_law_first", "_law_due", "_law_found", "_law_k", "_law_things_here", "_law_told", "_law_word", "_law_thing", "_law_kind", "_law_again"]
theorem sc_law : FnScope N_law ["_law_script"] (defScope s_law) := ⟨rfl, rfl, rfl, by decide +kernel, rfl, by decide +kernel, by decide +kernel⟩
-- slots: 0 _law_script, 1 _law_box, 2 _law_turn, 3 _law_sketch_z, 4 _law_owner, 5 _law_first, 6 _law_due, 7 _law_found, 8 _law_k, 9 _law_things_here, 10 _law_told, 11 _law_word, 12 _law_thing, 13 _law_kind, 14 _law_again
structure Tx (K : PySem.W.Frag) (mg : Str → Option Value) where
  f_things_of : Addr
  d_things_of : FuncData
  F_things_of : Fun K "things_of" "things_of" s_things_of f_things_of d_things_of
  g_things_of : mg "things_of" = some (.ref f_things_of)
  b_things_of : Binds K d_things_of ["content"] []
  f_definition_things : Addr
  d_definition_things : FuncData
  F_definition_things : Fun K "definition_things" "definition_things" s_definition_things f_definition_things d_definition_things
  g_definition_things : mg "definition_things" = some (.ref f_definition_things)
  b_definition_things : Binds K d_definition_things ["content"] []
  f_blocks_of : Addr
  d_blocks_of : FuncData
  F_blocks_of : Fun K "blocks_of" "blocks_of" s_blocks_of f_blocks_of d_blocks_of
  g_blocks_of : mg "blocks_of" = some (.ref f_blocks_of)
  b_blocks_of : Binds K d_blocks_of ["content"] []
  f_declared_by : Addr
  d_declared_by : FuncData
  F_declared_by : Fun K "declared_by" "declared_by" s_declared_by f_declared_by d_declared_by
  g_declared_by : mg "declared_by" = some (.ref f_declared_by)
  b_declared_by : Binds K d_declared_by ["content"] []
  f_expressions_of : Addr
  d_expressions_of : FuncData
  F_expressions_of : Fun K "expressions_of" "expressions_of" s_expressions_of f_expressions_of d_expressions_of
  g_expressions_of : mg "expressions_of" = some (.ref f_expressions_of)
  b_expressions_of : Binds K d_expressions_of ["content"] []
  f_leaves_of : Addr
  d_leaves_of : FuncData
  F_leaves_of : Fun K "leaves_of" "leaves_of" s_leaves_of f_leaves_of d_leaves_of
  g_leaves_of : mg "leaves_of" = some (.ref f_leaves_of)
  b_leaves_of : Binds K d_leaves_of ["expression"] []
  f_parts_of : Addr
  d_parts_of : FuncData
  F_parts_of : Fun K "parts_of" "parts_of" s_parts_of f_parts_of d_parts_of
  g_parts_of : mg "parts_of" = some (.ref f_parts_of)
  b_parts_of : Binds K d_parts_of ["expression"] []
  f_folded : Addr
  d_folded : FuncData
  F_folded : Fun K "folded" "folded" s_folded f_folded d_folded
  g_folded : mg "folded" = some (.ref f_folded)
  b_folded : Binds K d_folded ["expression", "at_leaf", "at_sign"] []
  f_sketched : Addr
  d_sketched : FuncData
  F_sketched : Fun K "sketched" "sketched" s_sketched f_sketched d_sketched
  g_sketched : mg "sketched" = some (.ref f_sketched)
  f_tree_row : Addr
  d_tree_row : FuncData
  F_tree_row : Fun K "tree_row" "tree_row" s_tree_row f_tree_row d_tree_row
  g_tree_row : mg "tree_row" = some (.ref f_tree_row)
  b_tree_row : Binds K d_tree_row ["sketch"] []
  f__law_draw : Addr
  d__law_draw : FuncData
  F__law_draw : Fun K "_law_draw" "_law_draw" s__law_draw f__law_draw d__law_draw
  g__law_draw : mg "_law_draw" = some (.ref f__law_draw)
  b__law_draw : Binds K d__law_draw ["_law_box", "_law_many"] []
  f__law_pick : Addr
  d__law_pick : FuncData
  F__law_pick : Fun K "_law_pick" "_law_pick" s__law_pick f__law_pick d__law_pick
  g__law_pick : mg "_law_pick" = some (.ref f__law_pick)
  b__law_pick : Binds K d__law_pick ["_law_box", "_law_row"] []
  f__law_like : Addr
  d__law_like : FuncData
  F__law_like : Fun K "_law_like" "_law_like" s__law_like f__law_like d__law_like
  g__law_like : mg "_law_like" = some (.ref f__law_like)
  b__law_like : Binds K d__law_like ["_law_found", "_law_due"] []
  f__law_begin : Addr
  d__law_begin : FuncData
  F__law_begin : Fun K "_law_begin" "_law_begin" s__law_begin f__law_begin d__law_begin
  g__law_begin : mg "_law_begin" = some (.ref f__law_begin)
  b__law_begin : Binds K d__law_begin ["_law_script"] []
  f__law_value : Addr
  d__law_value : FuncData
  F__law_value : Fun K "_law_value" "_law_value" s__law_value f__law_value d__law_value
  g__law_value : mg "_law_value" = some (.ref f__law_value)
  b__law_value : Binds K d__law_value ["_law_box"] []
  f__law_new : Addr
  d__law_new : FuncData
  F__law_new : Fun K "_law_new" "_law_new" s__law_new f__law_new d__law_new
  g__law_new : mg "_law_new" = some (.ref f__law_new)
  b__law_new : Binds K d__law_new ["_law_w"] []
  f__law_use : Addr
  d__law_use : FuncData
  F__law_use : Fun K "_law_use" "_law_use" s__law_use f__law_use d__law_use
  g__law_use : mg "_law_use" = some (.ref f__law_use)
  b__law_use : Binds K d__law_use ["_law_w", "_law_label"] []
  f__law_terms : Addr
  d__law_terms : FuncData
  F__law_terms : Fun K "_law_terms" "_law_terms" s__law_terms f__law_terms d__law_terms
  g__law_terms : mg "_law_terms" = some (.ref f__law_terms)
  b__law_terms : Binds K d__law_terms ["_law_content"] []
  f__law_term_things : Addr
  d__law_term_things : FuncData
  F__law_term_things : Fun K "_law_term_things" "_law_term_things" s__law_term_things f__law_term_things d__law_term_things
  g__law_term_things : mg "_law_term_things" = some (.ref f__law_term_things)
  b__law_term_things : Binds K d__law_term_things ["_law_term"] []
  f__law_things : Addr
  d__law_things : FuncData
  F__law_things : Fun K "_law_things" "_law_things" s__law_things f__law_things d__law_things
  g__law_things : mg "_law_things" = some (.ref f__law_things)
  b__law_things : Binds K d__law_things ["_law_content"] []
  f__law_sketch_term : Addr
  d__law_sketch_term : FuncData
  F__law_sketch_term : Fun K "_law_sketch_term" "_law_sketch_term" s__law_sketch_term f__law_sketch_term d__law_sketch_term
  g__law_sketch_term : mg "_law_sketch_term" = some (.ref f__law_sketch_term)
  b__law_sketch_term : Binds K d__law_sketch_term ["_law_w", "_law_term"] []
  f__law_sketch : Addr
  d__law_sketch : FuncData
  F__law_sketch : Fun K "_law_sketch" "_law_sketch" s__law_sketch f__law_sketch d__law_sketch
  g__law_sketch : mg "_law_sketch" = some (.ref f__law_sketch)
  b__law_sketch : Binds K d__law_sketch ["_law_sketch_z", "_law_person_z", "_law_start_z"] []
  f__law_any_id : Addr
  d__law_any_id : FuncData
  F__law_any_id : Fun K "_law_any_id" "_law_any_id" s__law_any_id f__law_any_id d__law_any_id
  g__law_any_id : mg "_law_any_id" = some (.ref f__law_any_id)
  b__law_any_id : Binds K d__law_any_id ["_law_box"] []
  f__law_any_term : Addr
  d__law_any_term : FuncData
  F__law_any_term : Fun K "_law_any_term" "_law_any_term" s__law_any_term f__law_any_term d__law_any_term
  g__law_any_term : mg "_law_any_term" = some (.ref f__law_any_term)
  b__law_any_term : Binds K d__law_any_term ["_law_box", "_law_deep"] []
  f__law_any_sketch : Addr
  d__law_any_sketch : FuncData
  F__law_any_sketch : Fun K "_law_any_sketch" "_law_any_sketch" s__law_any_sketch f__law_any_sketch d__law_any_sketch
  g__law_any_sketch : mg "_law_any_sketch" = some (.ref f__law_any_sketch)
  b__law_any_sketch : Binds K d__law_any_sketch ["_law_box"] []
  f_law : Addr
  d_law : FuncData
  F_law : Fun K "law" "law" s_law f_law d_law
  g_law : mg "law" = some (.ref f_law)
  C_Numbering : Addr
  g_Numbering : mg "Numbering" = some (.ref C_Numbering)
  c_Numbering : Cls K C_Numbering
  n_Numbering__owner : NoAttr K C_Numbering "_owner"
  n_Numbering_behind : NoAttr K C_Numbering "behind"
  n_Numbering_placed : NoAttr K C_Numbering "placed"
  n_Numbering_declared : NoAttr K C_Numbering "declared"
  n_Numbering_used : NoAttr K C_Numbering "used"
  n_Numbering_told : NoAttr K C_Numbering "told"
  n_Numbering_root : NoAttr K C_Numbering "root"
  n_Numbering__waiting : NoAttr K C_Numbering "_waiting"
  f_Numbering__init__ : Addr
  d_Numbering__init__ : FuncData
  F_Numbering__init__ : FunD K "__init__" "Numbering.__init__" (defArgs s_Numbering__init__) (defBody s_Numbering__init__) (defScope s_Numbering__init__) [.int 0] [] f_Numbering__init__ d_Numbering__init__
  b_Numbering__init__ : Binds K d_Numbering__init__ ["self", "tree", "owner", "start"] []
  f_Numbering_fresh : Addr
  d_Numbering_fresh : FuncData
  F_Numbering_fresh : Fun K "_fresh" "Numbering._fresh" s_Numbering_fresh f_Numbering_fresh d_Numbering_fresh
  b_Numbering_fresh : Binds K d_Numbering_fresh ["self"] []
  m_Numbering_fresh : BMeth K C_Numbering "_fresh" f_Numbering_fresh
  f_Numbering_enter : Addr
  d_Numbering_enter : FuncData
  F_Numbering_enter : Fun K "_enter" "Numbering._enter" s_Numbering_enter f_Numbering_enter d_Numbering_enter
  b_Numbering_enter : Binds K d_Numbering_enter ["self", "block", "rows"] []
  m_Numbering_enter : BMeth K C_Numbering "_enter" f_Numbering_enter
  f_Numbering_number_row : Addr
  d_Numbering_number_row : FuncData
  F_Numbering_number_row : Fun K "_number_row" "Numbering._number_row" s_Numbering_number_row f_Numbering_number_row d_Numbering_number_row
  b_Numbering_number_row : Binds K d_Numbering_number_row ["self", "block", "index", "row"] []
  m_Numbering_number_row : BMeth K C_Numbering "_number_row" f_Numbering_number_row
  f_Numbering_number_second_half : Addr
  d_Numbering_number_second_half : FuncData
  F_Numbering_number_second_half : Fun K "_number_second_half" "Numbering._number_second_half" s_Numbering_number_second_half f_Numbering_number_second_half d_Numbering_number_second_half
  b_Numbering_number_second_half : Binds K d_Numbering_number_second_half ["self", "row", "rows"] []
  m_Numbering_number_second_half : BMeth K C_Numbering "_number_second_half" f_Numbering_number_second_half
  f_Numbering_content : Addr
  d_Numbering_content : FuncData
  F_Numbering_content : Fun K "_content" "Numbering._content" s_Numbering_content f_Numbering_content d_Numbering_content
  b_Numbering_content : Binds K d_Numbering_content ["self", "thing", "row"] []
  m_Numbering_content : BMeth K C_Numbering "_content" f_Numbering_content
  f_Numbering_definition : Addr
  d_Numbering_definition : FuncData
  F_Numbering_definition : Fun K "_definition" "Numbering._definition" s_Numbering_definition f_Numbering_definition d_Numbering_definition
  b_Numbering_definition : Binds K d_Numbering_definition ["self", "row"] []
  m_Numbering_definition : BMeth K C_Numbering "_definition" f_Numbering_definition
  f_Numbering_first_half : Addr
  d_Numbering_first_half : FuncData
  F_Numbering_first_half : Fun K "_first_half" "Numbering._first_half" s_Numbering_first_half f_Numbering_first_half d_Numbering_first_half
  b_Numbering_first_half : Binds K d_Numbering_first_half ["self", "thing", "row"] []
  m_Numbering_first_half : BMeth K C_Numbering "_first_half" f_Numbering_first_half
  f_Numbering_block : Addr
  d_Numbering_block : FuncData
  F_Numbering_block : Fun K "_block" "Numbering._block" s_Numbering_block f_Numbering_block d_Numbering_block
  b_Numbering_block : Binds K d_Numbering_block ["self", "rows"] []
  m_Numbering_block : BMeth K C_Numbering "_block" f_Numbering_block
  f_Numbering_declaration : Addr
  d_Numbering_declaration : FuncData
  F_Numbering_declaration : Fun K "_declaration" "Numbering._declaration" s_Numbering_declaration f_Numbering_declaration d_Numbering_declaration
  b_Numbering_declaration : Binds K d_Numbering_declaration ["self", "label"] []
  m_Numbering_declaration : BMeth K C_Numbering "_declaration" f_Numbering_declaration
  f_Numbering_use : Addr
  d_Numbering_use : FuncData
  F_Numbering_use : Fun K "_use" "Numbering._use" s_Numbering_use f_Numbering_use d_Numbering_use
  b_Numbering_use : Binds K d_Numbering_use ["self", "label"] []
  m_Numbering_use : BMeth K C_Numbering "_use" f_Numbering_use
  f_Numbering_leaf : Addr
  d_Numbering_leaf : FuncData
  F_Numbering_leaf : Fun K "_leaf" "Numbering._leaf" s_Numbering_leaf f_Numbering_leaf d_Numbering_leaf
  b_Numbering_leaf : Binds K d_Numbering_leaf ["self", "leaf"] []
  m_Numbering_leaf : BMeth K C_Numbering "_leaf" f_Numbering_leaf
  f_Numbering_expression : Addr
  d_Numbering_expression : FuncData
  F_Numbering_expression : Fun K "_expression" "Numbering._expression" s_Numbering_expression f_Numbering_expression d_Numbering_expression
  b_Numbering_expression : Binds K d_Numbering_expression ["self", "expression"] []
  m_Numbering_expression : BMeth K C_Numbering "_expression" f_Numbering_expression
  k_Numbering : Mk K C_Numbering f_Numbering__init__
  z_all : mg "all" = none
  z_bool : mg "bool" = none
  z_dict : mg "dict" = none
  z_int : mg "int" = none
  z_isinstance : mg "isinstance" = none
  z_len : mg "len" = none
  z_list : mg "list" = none
  z_range : mg "range" = none
  z_reversed : mg "reversed" = none
  z_str : mg "str" = none
  z_tuple : mg "tuple" = none
  z_zip : mg "zip" = none
end Kx
/-! part DL29 -/
namespace DL
open PySem PySem.Spec PyProof.Rows L2 My LamX NdefX
/-! ### an object and the tables -/
def AmOT (K : PySem.W.Frag) (B : Ob) (T : List (Addr × Str)) : Am OS where
  at_ fs P H := ObAt K B fs P H ∧ (AmT T).at_ () P H
  foot := B.foot
  tab := (AmT T).tab
  has fs P H a h f := (AmO K B).has fs P H a h.1 f
  hasT fs P H a h t := (AmT T).hasT () P H a h.2 t
  move fs P P' H H' h k f := ⟨(AmO K B).move fs P P' H H' h.1 k f, (AmT T).move () P P' H H' h.2 k fun _ _ _ z => z.elim⟩
/-- the object in it -/
def LOT (K : PySem.W.Frag) (B : Ob) (T : List (Addr × Str)) : LO (AmOT K B T) K B where
  get s := s
  put _ s := s
  at_ _ _ _ h := h.1
  foot _ h := h
  tab _ h := h.elim
  back s s' P P' H H' h h' e f k := ⟨h', (AmT T).move () P P' H H' h.2 (fun b o z n => ⟨k b o z n, e b o z (fun g => n (f b g)) fun t => t⟩) fun _ _ _ z => z.elim⟩
theorem ObAt.butP {K : PySem.W.Frag} {B : Ob} {fs : OS} {Q : Addr → Prop} {H H' : Hp} {P : Addr} {ps : Array Value} (h : ObAt K B fs Q H) (t : H P = some (.tbl ps)) (b : ButP P H H') : ObAt K B fs Q H' := by
  have s : Same (hidP Q H) (hidP Q H') := hidP_same fun c o e n m => ⟨m, b c o (fun z => by rw [z, t] at e; cases e; exact n _ rfl) e⟩
  have ne : ∀ {a : Addr} {o : HO}, H a = some o → Hd o → a ≠ P := fun e d z => by
    rw [z, t] at e
    cases e
    exact d
  obtain ⟨vs, e, x⟩ := h.ex
  refine ⟨⟨vs, b _ _ (ne e trivial) e, x.move s fun n o hn eo => ?_⟩, b _ _ (ne h.dx trivial) h.dx, fun n hn => ?_, h.few⟩
  · obtain ⟨u, e1, d⟩ := h.nms n hn
    exact b _ _ (ne e1 d) eo
  · obtain ⟨u, e1, d⟩ := h.nms n hn
    exact ⟨u, b _ _ (ne e1 d) e1, d⟩
theorem hasTab_OT {K : PySem.W.Frag} {B : Ob} {T : List (Addr × Str)} {P : Addr} {q : Str} (hT : HasTab (AmT T) P q) : HasTab (AmOT K B T) P q :=
  ⟨hT.tab, fun s Q H h => hT.get () Q H h.2, fun s Q H H' h b t vis => by
    obtain ⟨ps, g, _⟩ := hT.get () Q H h.2
    exact ⟨h.1.butP g b, hT.put () Q H H' h.2 b t vis⟩⟩
end DL
/-! part DLP -/
namespace DL
open PySem PySem.Spec PyProof.Rows L2 My
/-! ### lemmas of the pure part -/
theorem itP {c : Prop} [Decidable c] {A B : Prop} (hc : c) (h : A) : if c then A else B := by
  rw [if_pos hc]
  exact h
theorem itN {c : Prop} [Decidable c] {A B : Prop} (hc : ¬ c) (h : B) : if c then A else B := by
  rw [if_neg hc]
  exact h
theorem la_nil {S : Type} : ∀ (τ : En × S) k, (wNil : WA S).f τ k → (wNil : WA S).f τ fun ds τ1 => ds.length = 0 ∧ k ds τ1 := fun τ k h => ⟨rfl, h⟩
theorem la_cons {S : Type} {e : WE S} {r : WA S} {n : Nat} (h : ∀ τ k, r.f τ k → r.f τ fun ds τ1 => ds.length = n ∧ k ds τ1) : ∀ τ k, (wCons e r).f τ k → (wCons e r).f τ fun ds τ1 => ds.length = n + 1 ∧ k ds τ1 :=
  fun τ k q => e.mono _ _ _ (fun d τ1 q1 => r.mono _ _ _ (fun ds τ2 q2 => ⟨by rw [List.length_cons, q2.1], q2.2⟩) (h τ1 _ q1)) q
theorem wVar_run {S : Type} {τ : En × S} {i : Nat} {d : Dt} {k : Dt → En × S → Prop} (e : τ.1[i]? = some (.dat d)) (h : k d τ) : (wVar i : WE S).f τ k := by
  show (match τ.1[i]? with | some (Sl.dat d) => k d τ | _ => False)
  rw [e]
  exact h
theorem wInT_run {S : Type} {τ : En × S} {i : Nat} {d : Dt} {zs : List Str} {neg b : Bool} {k : Bool → En × S → Prop} (e : τ.1[i]? = some (.dat d)) (e2 : inT zs neg d = some b) (h : k b τ) : (wInT zs neg (wVar i)).f τ k := by
  refine wVar_run (k := fun d τ1 => optB (inT zs neg d) fun b => k b τ1) e ?_
  show optB (inT zs neg d) _
  rw [e2]
  exact h
theorem lc_run {S : Type} {wg : WG} {tt : WT S} {te : WE S} {ρ : En} (f : Dt → List Dt) : ∀ (ds : List Dt) (s : S) (acc : List Dt) (k : List Dt → S → Prop),
    (∀ d ∈ ds, ∃ ρ1, wg d ρ = some ρ1 ∧ ((f d = [] ∧ ∀ k' : Bool → En × S → Prop, k' false (ρ1, s) → tt.f (ρ1, s) k') ∨ ∃ e, f d = [e] ∧ (∀ k' : Bool → En × S → Prop, k' true (ρ1, s) → tt.f (ρ1, s) k') ∧ ∀ k' : Dt → En × S → Prop, k' e (ρ1, s) → te.f (ρ1, s) k')) →
    acc.length + ds.length ≤ 1000000 → k (acc ++ ds.flatMap f) s → lcN wg tt te ρ ds s acc k
  | [], s, acc, k, _, _, q => by
    rw [List.flatMap_nil, List.append_nil] at q
    exact q
  | d :: ds, s, acc, k, h, l, q => by
    obtain ⟨ρ1, e1, h1⟩ := h d List.mem_cons_self
    rw [List.length_cons] at l
    refine ⟨by omega, ?_⟩
    rw [e1]
    rw [List.flatMap_cons] at q
    rcases h1 with ⟨e2, h2⟩ | ⟨e, e2, h2, h3⟩
    · rw [e2, List.nil_append] at q
      refine h2 _ ?_
      rw [if_neg (by decide)]
      exact lc_run f ds s acc k (fun x hx => h x (List.mem_cons_of_mem _ hx)) (by omega) q
    · rw [e2, ← List.append_assoc] at q
      refine h2 _ ?_
      rw [if_pos rfl]
      exact h3 _ (lc_run f ds s (acc ++ [e]) k (fun x hx => h x (List.mem_cons_of_mem _ hx)) (by simp; omega) q)
theorem ix_head (d : Dt) (rest : List Dt) : gIx (.tup (d :: rest)) (.int 0) = some d := by
  simp [gIx, atI, ixN]
theorem kw_yes {S : Type} {τ : En × S} {i : Nat} {z z' : Str} {rest : List Dt} {a b : WS S} {k : Rs → En × S → Prop} (e : τ.1[i]? = some (.dat (.tup (.str z :: rest)))) (h : z = z') (q : a.f τ k) :
    (wIfS (wTst (wO2 gEq (wO2 gIx (wVar i) (wC (.int 0))) (wC (.str z')))) a b).f τ k := by
  refine wVar_run (k := fun d τ1 => optK (gIx d (.int 0)) fun c => optK (gEq c (.str z')) fun c => match c with | .bl b1 => if b1 = true then a.f τ1 k else b.f τ1 k | _ => False) e ?_
  rw [ix_head]
  show (if decide (z = z') = true then a.f τ k else b.f τ k)
  rw [if_pos (decide_eq_true h)]
  exact q
theorem kw_no {S : Type} {τ : En × S} {i : Nat} {z z' : Str} {rest : List Dt} {a b : WS S} {k : Rs → En × S → Prop} (e : τ.1[i]? = some (.dat (.tup (.str z :: rest)))) (h : ¬ z = z') (q : b.f τ k) :
    (wIfS (wTst (wO2 gEq (wO2 gIx (wVar i) (wC (.int 0))) (wC (.str z')))) a b).f τ k := by
  refine wVar_run (k := fun d τ1 => optK (gIx d (.int 0)) fun c => optK (gEq c (.str z')) fun c => match c with | .bl b1 => if b1 = true then a.f τ1 k else b.f τ1 k | _ => False) e ?_
  rw [ix_head]
  show (if decide (z = z') = true then a.f τ k else b.f τ k)
  rw [if_neg (by rw [decide_eq_false h]; decide)]
  exact q
/-- content[0] in (..) -/
theorem ki_run {S : Type} {τ : En × S} {i : Nat} {z : Str} {rest ds : List Dt} {zs : List Str} {wt : WE S} {a b : WS S} {k : Rs → En × S → Prop} (e : τ.1[i]? = some (.dat (.tup (.str z :: rest)))) (e2 : ∀ k : Dt → En × S → Prop, k (.tup ds) τ → wt.f τ k) (e3 : gInS.strsD ds = some zs) (q : if zs.contains z = true then a.f τ k else b.f τ k) :
    (wIfS (wTst (wO2 (gInS false) (wO2 gIx (wVar i) (wC (.int 0))) wt)) a b).f τ k := by
  refine wVar_run (k := fun d τ1 => optK (gIx d (.int 0)) fun c => wt.f τ1 fun u τ2 => optK (gInS false c u) fun c => match c with | .bl b1 => if b1 = true then a.f τ2 k else b.f τ2 k | _ => False) e ?_
  rw [ix_head]
  refine e2 _ ?_
  show optK (gInS false (.str z) (.tup ds)) _
  rw [gInS, e3]
  exact q
theorem ki_yes {S : Type} {τ : En × S} {i : Nat} {z : Str} {rest ds : List Dt} {zs : List Str} {wt : WE S} {a b : WS S} {k : Rs → En × S → Prop} (e : τ.1[i]? = some (.dat (.tup (.str z :: rest)))) (e2 : ∀ k : Dt → En × S → Prop, k (.tup ds) τ → wt.f τ k) (e3 : gInS.strsD ds = some zs) (h : zs.contains z = true) (q : a.f τ k) :
    (wIfS (wTst (wO2 (gInS false) (wO2 gIx (wVar i) (wC (.int 0))) wt)) a b).f τ k := ki_run e e2 e3 (by rw [if_pos h]; exact q)
theorem ki_no {S : Type} {τ : En × S} {i : Nat} {z : Str} {rest ds : List Dt} {zs : List Str} {wt : WE S} {a b : WS S} {k : Rs → En × S → Prop} (e : τ.1[i]? = some (.dat (.tup (.str z :: rest)))) (e2 : ∀ k : Dt → En × S → Prop, k (.tup ds) τ → wt.f τ k) (e3 : gInS.strsD ds = some zs) (h : ¬ zs.contains z = true) (q : b.f τ k) :
    (wIfS (wTst (wO2 (gInS false) (wO2 gIx (wVar i) (wC (.int 0))) wt)) a b).f τ k := ki_run e e2 e3 (by rw [if_neg h]; exact q)
theorem kwS_yes {S : Type} {τ : En × S} {i : Nat} {z z' : Str} {rest : List Dt} {a r : WS S} {k : Rs → En × S → Prop} (e : τ.1[i]? = some (.dat (.tup (.str z :: rest)))) (h : z = z') (q : a.f τ (seqK (fun τ' => r.f τ' k) k)) :
    (wSeq (wIfS (wTst (wO2 gEq (wO2 gIx (wVar i) (wC (.int 0))) (wC (.str z')))) a wNx) r).f τ k := kw_yes (b := wNx) (k := seqK (fun τ' => r.f τ' k) k) e h q
theorem kwS_no {S : Type} {τ : En × S} {i : Nat} {z z' : Str} {rest : List Dt} {a r : WS S} {k : Rs → En × S → Prop} (e : τ.1[i]? = some (.dat (.tup (.str z :: rest)))) (h : ¬ z = z') (q : r.f τ k) :
    (wSeq (wIfS (wTst (wO2 gEq (wO2 gIx (wVar i) (wC (.int 0))) (wC (.str z')))) a wNx) r).f τ k := kw_no (b := wNx) (k := seqK (fun τ' => r.f τ' k) k) e h q
theorem kiS_yes {S : Type} {τ : En × S} {i : Nat} {z : Str} {rest ds : List Dt} {zs : List Str} {wt : WE S} {a r : WS S} {k : Rs → En × S → Prop} (e : τ.1[i]? = some (.dat (.tup (.str z :: rest)))) (e2 : ∀ k : Dt → En × S → Prop, k (.tup ds) τ → wt.f τ k) (e3 : gInS.strsD ds = some zs) (h : zs.contains z = true) (q : a.f τ (seqK (fun τ' => r.f τ' k) k)) :
    (wSeq (wIfS (wTst (wO2 (gInS false) (wO2 gIx (wVar i) (wC (.int 0))) wt)) a wNx) r).f τ k := ki_yes (b := wNx) (k := seqK (fun τ' => r.f τ' k) k) e e2 e3 h q
theorem kiS_no {S : Type} {τ : En × S} {i : Nat} {z : Str} {rest ds : List Dt} {zs : List Str} {wt : WE S} {a r : WS S} {k : Rs → En × S → Prop} (e : τ.1[i]? = some (.dat (.tup (.str z :: rest)))) (e2 : ∀ k : Dt → En × S → Prop, k (.tup ds) τ → wt.f τ k) (e3 : gInS.strsD ds = some zs) (h : ¬ zs.contains z = true) (q : r.f τ k) :
    (wSeq (wIfS (wTst (wO2 (gInS false) (wO2 gIx (wVar i) (wC (.int 0))) wt)) a wNx) r).f τ k := ki_no (b := wNx) (k := seqK (fun τ' => r.f τ' k) k) e e2 e3 h q
theorem kvS_yes {S : Type} {τ : En × S} {i : Nat} {z z' : Str} {a r : WS S} {k : Rs → En × S → Prop} (e : τ.1[i]? = some (.dat (.str z))) (h : z = z') (q : a.f τ (seqK (fun τ' => r.f τ' k) k)) :
    (wSeq (wIfS (wTst (wO2 gEq (wVar i) (wC (.str z')))) a wNx) r).f τ k := by
  refine wVar_run (k := fun d τ1 => optK (gEq d (.str z')) fun c => match c with | .bl b1 => if b1 = true then a.f τ1 (seqK (fun τ' => r.f τ' k) k) else wNx.f τ1 (seqK (fun τ' => r.f τ' k) k) | _ => False) e ?_
  show (if decide (z = z') = true then a.f τ (seqK (fun τ' => r.f τ' k) k) else wNx.f τ (seqK (fun τ' => r.f τ' k) k))
  rw [if_pos (decide_eq_true h)]
  exact q
theorem kvS_no {S : Type} {τ : En × S} {i : Nat} {z z' : Str} {a r : WS S} {k : Rs → En × S → Prop} (e : τ.1[i]? = some (.dat (.str z))) (h : ¬ z = z') (q : r.f τ k) :
    (wSeq (wIfS (wTst (wO2 gEq (wVar i) (wC (.str z')))) a wNx) r).f τ k := by
  refine wVar_run (k := fun d τ1 => optK (gEq d (.str z')) fun c => match c with | .bl b1 => if b1 = true then a.f τ1 (seqK (fun τ' => r.f τ' k) k) else wNx.f τ1 (seqK (fun τ' => r.f τ' k) k) | _ => False) e ?_
  show (if decide (z = z') = true then a.f τ (seqK (fun τ' => r.f τ' k) k) else wNx.f τ (seqK (fun τ' => r.f τ' k) k))
  rw [if_neg (by rw [decide_eq_false h]; decide)]
  exact q
theorem setS_run {S : Type} {τ : En × S} {i : Nat} {w : WE S} {r : WS S} {k : Rs → En × S → Prop} (q : w.f τ fun d τ1 => i < τ1.1.length ∧ r.f (putSl τ1 i (.dat d)) k) : (wSeq (wSet i w) r).f τ k :=
  w.mono _ _ _ (fun d τ1 h => by
    show wPut i τ1 (.dat d) (seqK (fun τ' => r.f τ' k) k)
    unfold wPut
    rw [if_pos h.1]
    exact h.2) q
theorem pop_run {S : Type} {τ : En × S} {i : Nat} {ds : List Dt} {d : Dt} {k : Dt → En × S → Prop} (e : τ.1[i]? = some (.own (.lst (ds ++ [d])))) (h : k d (putSl τ i (.own (.lst ds)))) : (wPop i : WE S).f τ k := by
  show ownK τ i fun ds => optK ds.getLast? fun d => k d (putSl τ i (.own (.lst ds.dropLast)))
  unfold ownK
  rw [e]
  dsimp only
  rw [List.getLast?_concat, List.dropLast_concat]
  exact h
theorem inS_yes {S : Type} {τ : En × S} {i : Nat} {d : Dt} {zs : List Str} {neg : Bool} {a b : WS S} {k : Rs → En × S → Prop} (e : τ.1[i]? = some (.dat d)) (e2 : inT zs neg d = some true) (h : a.f τ k) : (wIfS (wInT zs neg (wVar i)) a b).f τ k :=
  wInT_run (k := fun c τ1 => if c = true then a.f τ1 k else b.f τ1 k) e e2 h
theorem inS_no {S : Type} {τ : En × S} {i : Nat} {d : Dt} {zs : List Str} {neg : Bool} {a b : WS S} {k : Rs → En × S → Prop} (e : τ.1[i]? = some (.dat d)) (e2 : inT zs neg d = some false) (h : b.f τ k) : (wIfS (wInT zs neg (wVar i)) a b).f τ k :=
  wInT_run (k := fun c τ1 => if c = true then a.f τ1 k else b.f τ1 k) e e2 (by
    show if false = true then a.f τ k else b.f τ k
    rw [if_neg (by decide)]
    exact h)
theorem seq_run {S : Type} {a b : WS S} {τ : En × S} {k : Rs → En × S → Prop} (h : a.f τ (seqK (fun τ' => b.f τ' k) k)) : (wSeq a b).f τ k := h
theorem isiS_yes {S : Type} {τ : En × S} {i : Nat} {d : Dt} {T : String} {a r : WS S} {k : Rs → En × S → Prop} (e : τ.1[i]? = some (.dat d)) (h : isB d T = some true) (q : a.f τ (seqK (fun τ' => r.f τ' k) k)) : (wSeq (wIfS (wTst (wIsi T (wVar i))) a wNx) r).f τ k := by
  refine wVar_run (k := fun d τ1 => optB (isB d T) fun c => if c = true then a.f τ1 (seqK (fun τ' => r.f τ' k) k) else wNx.f τ1 (seqK (fun τ' => r.f τ' k) k)) e ?_
  rw [h]
  exact q
theorem isiS_no {S : Type} {τ : En × S} {i : Nat} {d : Dt} {T : String} {a r : WS S} {k : Rs → En × S → Prop} (e : τ.1[i]? = some (.dat d)) (h : isB d T = some false) (q : r.f τ k) : (wSeq (wIfS (wTst (wIsi T (wVar i))) a wNx) r).f τ k := by
  refine wVar_run (k := fun d τ1 => optB (isB d T) fun c => if c = true then a.f τ1 (seqK (fun τ' => r.f τ' k) k) else wNx.f τ1 (seqK (fun τ' => r.f τ' k) k)) e ?_
  rw [h]
  exact q
theorem o_add {K : PySem.W.Frag} : Op2 K (rI0 fun i j => .int (i + j)) (gI fun i j => .int (i + j)) := o_I fun _ _ _ => .int _
theorem o_sub {K : PySem.W.Frag} : Op2 K (rI0 fun i j => .int (i - j)) (gI fun i j => .int (i - j)) := o_I fun _ _ _ => .int _
theorem gIx_lst {ds : List Dt} {i : Nat} {d : Dt} (h : ds[i]? = some d) : gIx (.lst ds) (.int (i : Nat)) = some d := atI_nat h
theorem gIx_tup {ds : List Dt} {i : Nat} {d : Dt} (h : ds[i]? = some d) : gIx (.tup ds) (.int (i : Nat)) = some d := atI_nat h
theorem optK_is {o : Option Dt} {c : Dt} {k : Dt → Prop} (e : o = some c) (h : k c) : optK o k := by
  subst e
  exact h
theorem asg_run {S : Type} {wg : WG} {w : WE S} {b : WS S} {τ : En × S} {k : Rs → En × S → Prop} (h : w.f τ fun d τ1 => ∃ ρ, wg d τ1.1 = some ρ ∧ b.f (ρ, τ1.2) k) : (wSeq (wAsg wg w) b).f τ k :=
  w.mono _ _ _ (fun d τ1 ⟨ρ, e, h⟩ => by
    show optEn (wg d τ1.1) _
    rw [e]
    exact h) h
theorem consVar {S : Type} {τ : En × S} {i : Nat} {d : Dt} {k : List Dt → En × S → Prop} (e : τ.1[i]? = some (.dat d)) (h : k [d] τ) : (wCons (wVar i) wNil : WA S).f τ k := wVar_run (k := fun d τ1 => k [d] τ1) e h
end DL
/-! part K41d -/
namespace Kx
open PySem PySem.Spec PyProof.Rows L2 My DL
/-- the one dict of the program -/
structure Ts (K : PySem.W.Frag) (w : World) (mg : Str → Option Value) where
  a : Addr
  g : mg "STRENGTHS" = some (.ref a)
  q : TxtD K w a ["*", "+", "-", "<"]
def signs : List Str := ["*", "+", "-", "<"]
/-! ### expressions -/
inductive Tr where
  | leaf (d : Dt)
  | op (z : Str) (l r : Tr)
def Tr.dt : Tr → Dt
  | .leaf d => d
  | .op z l r => .tup [.str z, l.dt, r.dt]
/-- what a leaf may be: a number, a text that is no sign, a word that is no sign with an id -/
def leafB : Dt → Bool
  | .int _ => true
  | .str z => !signs.contains z
  | .tup [.str u, .tup [.str _, .int _]] => !signs.contains u
  | _ => false
inductive LeafV : Dt → Prop
  | int (i : Int) : LeafV (.int i)
  | str (z : Str) : signs.contains z = false → LeafV (.str z)
  | tup (u x : Str) (n : Int) : signs.contains u = false → LeafV (.tup [.str u, .tup [.str x, .int n]])
theorem leafV {d : Dt} (h : leafB d = true) : LeafV d := by
  unfold leafB at h
  split at h
  · exact .int _
  · exact .str _ (by simpa using h)
  · exact .tup _ _ _ (by simpa using h)
  · cases h
/-- all signs are signs, no leaf's word is one -/
def Tr.ok : Tr → Bool
  | .leaf d => leafB d
  | .op z l r => signs.contains z && (l.ok && r.ok)
def Tr.parts : Tr → List Dt
  | .leaf d => [d]
  | .op z l r => l.parts ++ (r.parts ++ [.str z])
def Tr.size : Tr → Nat
  | .leaf _ => 1
  | .op _ l r => l.size + r.size + 1
def Tr.wt : Tr → Nat
  | .leaf _ => 1
  | .op _ l r => l.wt + r.wt + 2
inductive It where
  | tr (t : Tr)
  | sg (z : Str)
def It.dt : It → Dt
  | .tr t => t.dt
  | .sg z => .str z
def It.ok : It → Bool
  | .tr t => t.ok
  | .sg _ => true
def It.out : It → List Dt
  | .tr t => t.parts
  | .sg z => [.str z]
def It.wt : It → Nat
  | .tr t => t.wt
  | .sg _ => 1
def sumW (xs : List It) : Nat := (xs.map It.wt).sum
def bParts : WS Unit := wSeq (wSet 3 (wPop 2)) (wIfS (wAndT (wTst (wIsi "tuple" (wVar 3))) (wInT ["*", "+", "-", "<"] false (wO2 gIx (wVar 3) (wC (.int 0))))) (wSeq (wAsg (wgTup (wgCons (wgName 4) (wgCons (wgName 5) (wgCons (wgName 6) wgNil)))) (wVar 3)) (wExt 2 (wLst (wCons (wVar 4) (wCons (wVar 6) (wCons (wVar 5) wNil)))))) (wApp 1 (wVar 3)))
theorem isTup (ds : List Dt) : isB (.tup ds) "tuple" = some true := by
  show kitB "tuple" "tuple" = some true
  decide +kernel
theorem isTupS (z : Str) : isB (.str z) "tuple" = some false := by
  show kitB "str" "tuple" = some false
  decide +kernel
theorem isTupI (i : Int) : isB (.int i) "tuple" = some false := by
  show kitB "int" "tuple" = some false
  decide +kernel
section
variable {a0 a3 a4 a5 a6 : Sl} {ps ws : List Dt} {s : Unit} {k : Rs → En × Unit → Prop}
theorem b_leaf {d : Dt} (h : leafB d = true) (l : ps.length < 1000000) (q : k .nx ([a0, .own (.lst (ps ++ [d])), .own (.lst ws), .dat d, a4, a5, a6], s)) :
    bParts.f ([a0, .own (.lst ps), .own (.lst (ws ++ [d])), a3, a4, a5, a6], s) k := by
  cases leafV h with
  | int i => simpa [bParts, wSeq, wSet, seqK, wPut, wPop, ownK, putSl, optK, wIfS, wAndT, wTst, wIsi, wVar, optB, isTupI, wApp, l] using q
  | str z hz => simpa [bParts, wSeq, wSet, seqK, wPut, wPop, ownK, putSl, optK, wIfS, wAndT, wTst, wIsi, wVar, optB, isTupS, wApp, l] using q
  | tup u x n hz =>
    simp [signs] at hz
    simpa [bParts, wSeq, wSet, seqK, wPut, wPop, ownK, putSl, optK, wIfS, wAndT, wTst, wIsi, wVar, optB, isTup, wInT, wO2, wC, gIx, atI, inT, wApp, ixN, hz, l] using q
theorem b_sg {z : Str} (l : ps.length < 1000000) (q : k .nx ([a0, .own (.lst (ps ++ [.str z])), .own (.lst ws), .dat (.str z), a4, a5, a6], s)) :
    bParts.f ([a0, .own (.lst ps), .own (.lst (ws ++ [.str z])), a3, a4, a5, a6], s) k := by
  simpa [bParts, wSeq, wSet, seqK, wPut, wPop, ownK, putSl, optK, wIfS, wAndT, wTst, wIsi, wVar, optB, isTupS, wApp, l] using q
theorem b_op {z : Str} {l r : Tr} (h : (["*", "+", "-", "<"] : List Str).contains z = true) (ll : ws.length + 3 ≤ 1000000) (q : k .nx ([a0, .own (.lst ps), .own (.lst (ws ++ [.str z, r.dt, l.dt])), .dat (Tr.op z l r).dt, .dat (.str z), .dat l.dt, .dat r.dt], s)) :
    bParts.f ([a0, .own (.lst ps), .own (.lst (ws ++ [(Tr.op z l r).dt])), a3, a4, a5, a6], s) k := by
  simp at h
  have l3 : ws.length ≤ 999997 := by omega
  simpa [bParts, wSeq, wSet, seqK, wPut, wPop, ownK, putSl, optK, wIfS, wAndT, wTst, wIsi, wVar, optB, Tr.dt, isTup, wInT, wO2, wC, gIx, atI, inT, wApp, ixN, h, l3, wAsg, wgTup, wgCons, wgName, wgNil, optEn, wExt, wLst, wCons, wNil] using q
theorem loop : ∀ (n : Nat) (xs : List It) (ps : List Dt) (a0 a3 a4 a5 a6 : Sl) (s : Unit) (k : Rs → En × Unit → Prop), sumW xs < n → (∀ x ∈ xs, x.ok = true) → sumW xs ≤ 900000 → ps.length + sumW xs ≤ 900000 →
    (∀ b3 b4 b5 b6, k .nx ([a0, .own (.lst (ps ++ xs.flatMap It.out)), .own (.lst []), b3, b4, b5, b6], s)) → whN (DL.wTru 2) bParts n ([a0, .own (.lst ps), .own (.lst (xs.reverse.map It.dt)), a3, a4, a5, a6], s) k
  | 0, _, _, _, _, _, _, _, _, _, h, _, _, _, _ => absurd h (Nat.not_lt_zero _)
  | n + 1, [], ps, a0, a3, a4, a5, a6, s, k, _, _, _, _, q => by
    have q1 := q a3 a4 a5 a6
    simpa [whN, DL.wTru, ownK] using q1
  | n + 1, x :: xs, ps, a0, a3, a4, a5, a6, s, k, hn, ho, hw, hp, q => by
    have len : xs.length ≤ sumW xs := by
      unfold sumW
      clear hn ho hw hp q
      induction xs with
      | nil => exact Nat.zero_le _
      | cons y ys ih =>
        have : 1 ≤ y.wt := by
          cases y with
          | tr t => cases t <;> simp [It.wt, Tr.wt]
          | sg z => simp [It.wt]
        simp only [List.length_cons, List.map_cons, List.sum_cons]
        omega
    have sw : sumW (x :: xs) = x.wt + sumW xs := by simp [sumW]
    have hox := ho x List.mem_cons_self
    have hoxs : ∀ y ∈ xs, y.ok = true := fun y hy => ho y (List.mem_cons_of_mem _ hy)
    have go : ∀ body : Prop, (bParts.f ([a0, .own (.lst ps), .own (.lst (xs.reverse.map It.dt ++ [x.dt])), a3, a4, a5, a6], s) fun r τ2 => match r with
        | .nx => whN (DL.wTru 2) bParts n τ2 k
        | .ct => whN (DL.wTru 2) bParts n τ2 k
        | .bk => k .nx τ2
        | r => k r τ2) → whN (DL.wTru 2) bParts (n + 1) ([a0, .own (.lst ps), .own (.lst ((x :: xs).reverse.map It.dt)), a3, a4, a5, a6], s) k := fun _ z => by
      rw [List.reverse_cons, List.map_append]
      show (if (!(xs.reverse.map It.dt ++ [x.dt]).isEmpty) = true then _ else _)
      rw [if_pos (by simp)]
      exact z
    refine go True ?_
    cases x with
    | sg z =>
      refine b_sg (by rw [sw] at hp; simp [It.wt] at hp; omega) (loop n xs _ _ _ _ _ _ _ _ (by rw [sw] at hn; simp [It.wt] at hn; omega) hoxs (by omega) (by rw [sw] at hp; simp [It.wt] at hp; simp; omega) fun b3 b4 b5 b6 => ?_)
      have q1 := q b3 b4 b5 b6
      simpa [It.out] using q1
    | tr t =>
      cases t with
      | leaf d =>
        refine b_leaf (d := d) (by simpa [It.ok, Tr.ok] using hox) (by rw [sw] at hp; simp [It.wt, Tr.wt] at hp; omega) (loop n xs _ _ _ _ _ _ _ _ (by rw [sw] at hn; simp [It.wt, Tr.wt] at hn; omega) hoxs (by omega) (by rw [sw] at hp; simp [It.wt, Tr.wt] at hp; simp; omega) fun b3 b4 b5 b6 => ?_)
        have q1 := q b3 b4 b5 b6
        simpa [It.out, Tr.parts] using q1
      | op z l r =>
        have ok3 : signs.contains z = true ∧ l.ok = true ∧ r.ok = true := by
          have h1 : (signs.contains z && (l.ok && r.ok)) = true := hox
          obtain ⟨h2, h3⟩ := Bool.and_eq_true_iff.mp h1
          exact ⟨h2, Bool.and_eq_true_iff.mp h3⟩
        have e2 : sumW (.tr l :: .tr r :: .sg z :: xs) = l.wt + (r.wt + (1 + sumW xs)) := by simp [sumW, It.wt]
        have e1 : sumW (.tr (.op z l r) :: xs) = l.wt + r.wt + 2 + sumW xs := by simp [sumW, It.wt, Tr.wt]
        have e4 : (It.tr l :: It.tr r :: It.sg z :: xs).reverse.map It.dt = xs.reverse.map It.dt ++ [.str z, r.dt, l.dt] := by simp [It.dt]
        have lp := loop n (.tr l :: .tr r :: .sg z :: xs) ps a0 (.dat (Tr.op z l r).dt) (.dat (.str z)) (.dat l.dt) (.dat r.dt) s k (by rw [e2]; rw [e1] at hn; omega) (fun y hy => by
          rcases List.mem_cons.mp hy with rfl | hy
          · exact ok3.2.1
          · rcases List.mem_cons.mp hy with rfl | hy
            · exact ok3.2.2
            · rcases List.mem_cons.mp hy with rfl | hy
              · rfl
              · exact hoxs y hy) (by rw [e2]; rw [e1] at hw; omega) (by rw [e2]; rw [e1] at hp; omega) (fun b3 b4 b5 b6 => by
          have q1 := q b3 b4 b5 b6
          simpa [It.out, Tr.parts] using q1)
        rw [e4] at lp
        exact b_op ok3.1 (by simp; omega) lp
end
section
variable {P : Program} {w : World} {K : PySem.W.Frag} {mg : Str → Option Value} {base : Heap} (T : Tx K mg) (SD : Ts K w mg)
theorem nd_parts : N_parts_of.Nodup := by decide
def fParts : List Dt → Option Rs
  | [d] => none
  | _ => none
def wfParts : WF Unit := ⟨fun ds s k => ∃ t : Tr, ds = [t.dt] ∧ t.ok = true ∧ t.size ≤ 1000 ∧ k (.rl t.parts) s, fun ds s k k' m ⟨t, a, b, c, h⟩ => ⟨t, a, b, c, m _ _ h⟩⟩
include SD in
theorem ok_parts_of : FnOk P w K mg base CX0 2 T.f_parts_of T.d_parts_of ["expression"] (spD K Am.none 1 wfParts) := by
  refine T.F_parts_of.ok sc_parts_of (spD_len rfl) (fun cdv A outer s H vs Q E hr h => ?_)
  refine d_body (m := 6) h rfl (s_cons (s_setOwn (i := 1) nd_parts rfl (Or.inl rfl) a_nil) (s_cons (s_setOwn (i := 2) nd_parts rfl (Or.inl rfl) (a_cons (d_var (pv 0)) a_nil))
    (s_cons (s_while PassesOwn.never (t_tru (pv 2))
      (s_cons (s_set (i := 3) nd_parts rfl (Or.inl rfl) (d_pop (pv 2)))
        (s_one (s_if (PW.pt (tw_and (t_val (d_isi (d_var (pv 3)) (by rfl) T.z_isinstance (pe_bltn (v := .ty "tuple") (by rfl) T.z_tuple (by decide +kernel) rfl))) (tw_and1 (t_inT SD.q hr.units (d_ix ix_seq o_ix (d_var (pv 3)) (d_int pe_int) (fun _ _ => rfl)) (pe_glob (v := .ref SD.a) (by rfl) SD.g rfl) (by rfl)))))
          (s_cons (s_asg (d_var (pv 3)) (pg_tup rfl (pgs_cons (pg_name (i := 4) nd_parts rfl (Or.inl rfl)) (pgs_cons (pg_name (i := 5) nd_parts rfl (Or.inl rfl)) (pgs_cons (pg_name (i := 6) nd_parts rfl (Or.inl rfl)) pgs_nil)))) (g_tup (g_cons g_name (g_cons g_name (g_cons g_name g_nil))) (n_cons (n_cons (n_cons n_nil)))))
            (s_one (s_ext (pv 2) (d_lst (a_cons (d_var (pv 4)) (a_cons (d_var (pv 6)) (a_cons (d_var (pv 5)) a_nil)))))))
          (s_one (s_app (pv 1) (d_var (pv 3))))))))
    (s_one (s_retOwn (pv 1)))))) (fun ds s k hl hw => ?_)
  obtain ⟨t, rfl, ok, sz, q⟩ := hw
  have wt : t.wt ≤ 2 * t.size := by
    clear ok sz q hl
    induction t with
    | leaf d => simp [Tr.wt, Tr.size]
    | op z l r i1 i2 => simp only [Tr.wt, Tr.size]; omega
  refine ⟨Nat.zero_le _, ?_⟩
  refine itP (by show 1 < 7; decide) ?_
  refine ⟨(by show 1 ≤ 1000000; decide), ?_⟩
  refine itP (by show 2 < 7; decide) ?_
  refine ⟨3000, loop 3000 [.tr t] [] (.dat t.dt) .no .no .no .no s _ (by simp [sumW, It.wt]; omega) (by simpa [It.ok] using ok) (by simp [sumW, It.wt]; omega) (by simp [sumW, It.wt]; omega) fun b3 b4 b5 b6 => ?_⟩
  simpa [It.out, seqK, wRetOwn, ownK] using q
end
end Kx
/-! part K41e -/
namespace Kx
open PySem PySem.Spec PyProof.Rows L2 My DL LamX NdefX
section
variable {S : Type}
/-- what a tree becomes by a function of a leaf and one of a sign and two results -/
def foldT (lf sg : WF S) : Tr → S → (Dt → S → Prop) → Prop
  | .leaf d, s, k => lf.f [d] s (ansK k)
  | .op z l r, s, k => foldT lf sg l s fun dl s1 => foldT lf sg r s1 fun dr s2 => sg.f [.str z, dl, dr] s2 (ansK k)
theorem foldT_mono {lf sg : WF S} : ∀ {t : Tr} {s : S} {k k' : Dt → S → Prop}, (∀ d s, k d s → k' d s) → foldT lf sg t s k → foldT lf sg t s k'
  | .leaf d, s, k, k', m, h => lf.mono _ _ _ _ (ansK_mono m) h
  | .op z l r, s, k, k', m, h => by
    show foldT lf sg l s fun dl s1 => foldT lf sg r s1 fun dr s2 => sg.f [.str z, dl, dr] s2 (ansK k')
    exact foldT_mono (t := l) (fun dl s1 h1 => foldT_mono (t := r) (fun dr s2 h2 => sg.mono _ _ _ _ (ansK_mono m) h2) h1) h
theorem inT_leaf {d : Dt} (h : leafB d = true) (neg : Bool) : inT ["*", "+", "-", "<"] neg d = some neg := by
  cases leafV h with
  | int i => rfl
  | str z hz =>
    show some (signs.contains z != neg) = some neg
    rw [hz]
    cases neg <;> rfl
  | tup u x n hz => rfl
def bFold (w1 w2 : WE S) : WS S := wIfS (wInT ["*", "+", "-", "<"] false (wVar 4)) (wSeq (wSet 5 (wPop 3)) (wSeq (wSet 6 (wPop 3)) (wApp 3 w2))) (wApp 3 w1)
/-- how the two calls of a fold behave: beside x1, x2 (slots 1 and 2) -/
structure Acts (x1 x2 : Sl) (lf sg : WF S) (w1 w2 : WE S) : Prop where
  one : ∀ (a0 a5 a6 : Sl) (dn : List Dt) (d : Dt) (s : S) (k : Dt → S → Prop), lf.f [d] s (ansK k) → w1.f ([a0, x1, x2, .own (.lst dn), .dat d, a5, a6], s) fun r τ => τ.1 = [a0, x1, x2, .own (.lst dn), .dat d, a5, a6] ∧ k r τ.2
  two : ∀ (a0 : Sl) (dn : List Dt) (z l r : Dt) (s : S) (k : Dt → S → Prop), sg.f [z, l, r] s (ansK k) → w2.f ([a0, x1, x2, .own (.lst dn), .dat z, .dat r, .dat l], s) fun v τ => τ.1 = [a0, x1, x2, .own (.lst dn), .dat z, .dat r, .dat l] ∧ k v τ.2
theorem app3 {x1 x2 a0 a4 a5 a6 : Sl} {dn : List Dt} {w : WE S} {s : S} {c : Dt → S → Prop} {k : Rs → En × S → Prop} (l : dn.length < 1000000) (h : w.f ([a0, x1, x2, .own (.lst dn), a4, a5, a6], s) fun r τ => τ.1 = [a0, x1, x2, .own (.lst dn), a4, a5, a6] ∧ c r τ.2)
    (q : ∀ d s', c d s' → k .nx ([a0, x1, x2, .own (.lst (dn ++ [d])), a4, a5, a6], s')) : (wApp 3 w : WS S).f ([a0, x1, x2, .own (.lst dn), a4, a5, a6], s) k := by
  refine w.mono _ _ _ (fun d τ' h1 => ?_) h
  obtain ⟨e, h2⟩ := h1
  obtain ⟨ρ, s'⟩ := τ'
  cases e
  exact ⟨l, q d s' h2⟩
theorem fold_loop {x1 x2 : Sl} {lf sg : WF S} {w1 w2 : WE S} (Y : Acts x1 x2 lf sg w1 w2) {a0 : Sl} {k : Rs → En × S → Prop} : ∀ (t : Tr) (rest done : List Dt) (a4 a5 a6 : Sl) (s : S), t.ok = true → done.length + t.size ≤ 900000 →
    foldT lf sg t s (fun d s' => ∀ b4 b5 b6, lpN (wgName 4) (bFold w1 w2) rest ([a0, x1, x2, .own (.lst (done ++ [d])), b4, b5, b6], s') k) →
    lpN (wgName 4) (bFold w1 w2) (t.parts ++ rest) ([a0, x1, x2, .own (.lst done), a4, a5, a6], s) k
  | .leaf d, rest, done, a4, a5, a6, s, ok, l, q => by
    have l2 : done.length + 1 ≤ 900000 := l
    show (bFold w1 w2).f ([a0, x1, x2, .own (.lst done), .dat d, a5, a6], s) _
    refine inS_no (i := 4) (d := d) rfl (inT_leaf ok false) ?_
    exact app3 (by omega) (Y.one _ _ _ _ _ _ _ q) fun d s' h => h _ _ _
  | .op z lt rt, rest, done, a4, a5, a6, s, ok, l, q => by
    have h1 : (signs.contains z && (lt.ok && rt.ok)) = true := ok
    obtain ⟨h2, h3⟩ := Bool.and_eq_true_iff.mp h1
    obtain ⟨h4, h5⟩ := Bool.and_eq_true_iff.mp h3
    have l2 : done.length + (lt.size + rt.size + 1) ≤ 900000 := l
    have e : (Tr.op z lt rt).parts ++ rest = lt.parts ++ (rt.parts ++ (.str z :: rest)) := by simp [Tr.parts]
    rw [e]
    refine fold_loop Y lt _ done _ _ _ s h4 (by omega) (foldT_mono (fun dl s1 h b4 b5 b6 => ?_) q)
    refine fold_loop Y rt _ (done ++ [dl]) _ _ _ s1 h5 (by rw [List.length_append, List.length_singleton]; omega) (foldT_mono (fun dr s2 h c4 c5 c6 => ?_) h)
    show (bFold w1 w2).f ([a0, x1, x2, .own (.lst (done ++ [dl] ++ [dr])), .dat (.str z), c5, c6], s2) _
    have ez : inT ["*", "+", "-", "<"] false (.str z) = some true := by
      show some (signs.contains z != false) = some true
      rw [h2]
      rfl
    refine inS_yes (i := 4) (d := .str z) rfl ez ?_
    refine setS_run (pop_run (ds := done ++ [dl]) (d := dr) rfl ⟨(by show 5 < 7; decide), ?_⟩)
    refine setS_run (pop_run (ds := done) (d := dl) rfl ⟨(by show 6 < 7; decide), ?_⟩)
    exact app3 (by omega) (Y.two _ _ _ _ _ _ _ h) fun d s' h => h _ _ _
def wsFold (A : Am S) (w1 w2 : WE S) : WS S := wSeq (wSetOwn 3 wNil) (wSeq (wFor (wItL (wCall (Lens.none A) wfParts (wCons (wVar 0) wNil))) (wgName 4) (bFold w1 w2)) (wFrz 3 (wRet (wO2 gIx (wVar 3) (wC (.int 0))))))
theorem fold_pure {A : Am S} {d1 d2 : Dt} {lf sg : WF S} {w1 w2 : WE S} (Y : Acts (.dat d1) (.dat d2) lf sg w1 w2) {t : Tr} {s : S} {k : Rs → S → Prop} (ok : t.ok = true) (sz : t.size ≤ 1000) (q : foldT lf sg t s fun d s' => k (.rt d) s') :
    (wsFold A w1 w2).f (ent [t.dt, d1, d2] 4, s) fun r τ' => k r τ'.2 := by
  refine ⟨Nat.zero_le _, ?_⟩
  refine itP (B := False) (by show 3 < 7; decide) ?_
  refine ⟨t, rfl, ok, sz, ?_⟩
  have l := fold_loop Y (a0 := .dat t.dt) (k := seqK (fun τ' => (wFrz 3 (wRet (wO2 gIx (wVar 3) (wC (.int 0)))) : WS S).f τ' fun r τ' => k r τ'.2) fun r τ' => k r τ'.2) t [] [] .no .no .no s ok (by show 0 + t.size ≤ 900000; omega) (foldT_mono (fun d s' h b4 b5 b6 => h) q)
  rw [List.append_nil] at l
  exact l
end
section
variable {P : Program} {w : World} {K : PySem.W.Frag} {mg : Str → Option Value} {base : Heap} (T : Tx K mg) (SD : Ts K w mg)
include SD in
theorem folded_body {S : Type} {A : Am S} {w1 w2 : WE S} {cdv : Value} {Ar : Around} {outer : List Env} {s0 : Shared} {H0 : Hp} {k : Nat} (hk : 2 ≤ k) (hr : Room k (Ar.deeper (envOfC "folded" (defScope s_folded) s0.heap.objs.size T.f_folded cdv)))
    (act1 : ∀ p1 p2 p3, PE (cxOf CX0 P w K mg base N_folded "folded" (defScope s_folded) T.f_folded cdv Ar outer s0 H0 E0).nox (.Call (.Name "at_leaf" p1) [.Name "part" p2] [] p3) (tE K A w1))
    (act2 : ∀ p1 p2 p3 p4 p5, PE (cxOf CX0 P w K mg base N_folded "folded" (defScope s_folded) T.f_folded cdv Ar outer s0 H0 E0).nox (.Call (.Name "at_sign" p1) [.Name "part" p2, .Name "left" p3, .Name "right" p4] [] p5) (tE K A w2)) :
    PSs (cxOf CX0 P w K mg base N_folded "folded" (defScope s_folded) T.f_folded cdv Ar outer s0 H0 E0).nox (defBody s_folded) (tS K A (wsFold A w1 w2)) := by
  have G := ok_parts_of (P := P) (w := w) (base := base) T SD
  exact s_cons (s_setOwn (i := 3) sc_folded.nd rfl (Or.inl rfl) a_nil)
    (s_cons (s_for PassesOwn.never rfl (i_list (d_call (Lens.none A) G (hr.mono hk) (by rfl) T.g_parts_of T.F_parts_of.kp T.b_parts_of (a_cons (d_var (pv 0)) a_nil) rfl (la_cons la_nil))) (pg_name (i := 4) sc_folded.nd rfl (Or.inl rfl)) g_name
      (s_one (s_if (t_inT SD.q hr.units (d_var (pv 4)) (pe_glob (v := .ref SD.a) (by rfl) SD.g rfl) (by rfl))
        (s_cons (s_set (i := 5) sc_folded.nd rfl (Or.inl rfl) (d_pop (pv 3))) (s_cons (s_set (i := 6) sc_folded.nd rfl (Or.inl rfl) (d_pop (pv 3))) (s_one (s_app (pv 3) (act2 _ _ _ _ _)))))
        (s_one (s_app (pv 3) (act1 _ _ _))))))
    (s_frz (i := 3) (s_one (s_ret (d_ix ix_seq o_ix (d_var (pv 3)) (d_int pe_int) (fun _ _ => rfl))))))
end
end Kx
/-! part K41f -/
namespace Kx
open PySem PySem.Spec PyProof.Rows L2 My DL LamX NdefX
abbrev Id' := Str × Int
def idt (i : Id') : Dt := .tup [.str i.1, .int i.2]
def idk (i : Id') : List Key := [.inr i.1, .inl i.2]
abbrev Dc := List (List Key × Dt)
/-- the numbering's fields -/
structure NS where
  o : Str
  b : Int
  p : Dc
  d : Dc
  u : Dc
  t : Dc
  x : Option (Dt × List Dt)
def rst : Option (Dt × List Dt) → OS
  | none => []
  | some (r, w) => [("root", .dat r), ("_waiting", .own (.lst w))]
def NS.os (n : NS) : OS := ("_owner", .dat (.str n.o)) :: ("behind", .dat (.int n.b)) :: ("placed", .own (.dt n.p)) :: ("declared", .own (.dt n.d)) :: ("used", .own (.dt n.u)) :: ("told", .own (.dt n.t)) :: rst n.x
theorem lkN {f g : Str} {x : Fd} {r : OS} (h : (f == g) = false) : List.lookup f ((g, x) :: r) = List.lookup f r := by rw [List.lookup_cons, h]
theorem lkY {f : Str} {x : Fd} {r : OS} : List.lookup f ((f, x) :: r) = some x := by rw [List.lookup_cons, beq_self_eq_true]
theorem ptN {f g : Str} {x y : Fd} {r : OS} (h : decide (g = f) = false) : putFd f y ((g, x) :: r) = (g, x) :: putFd f y r := by
  show (if g = f then _ else _) = _
  rw [if_neg (of_decide_eq_false h)]
theorem ptY {f : Str} {x y : Fd} {r : OS} : putFd f y ((f, x) :: r) = (f, y) :: r := by
  show (if f = f then _ else _) = _
  rw [if_pos rfl]
section
variable (n : NS)
theorem NS.l_owner : n.os.lookup ("_owner" : Str) = some (.dat (.str n.o)) := lkY
theorem NS.l_behind : n.os.lookup ("behind" : Str) = some (.dat (.int n.b)) := by
  rw [NS.os, lkN (by decide +kernel)]
  exact lkY
theorem NS.l_placed : n.os.lookup ("placed" : Str) = some (.own (.dt n.p)) := by
  rw [NS.os, lkN (by decide +kernel), lkN (by decide +kernel)]
  exact lkY
theorem NS.l_declared : n.os.lookup ("declared" : Str) = some (.own (.dt n.d)) := by
  rw [NS.os, lkN (by decide +kernel), lkN (by decide +kernel), lkN (by decide +kernel)]
  exact lkY
theorem NS.l_used : n.os.lookup ("used" : Str) = some (.own (.dt n.u)) := by
  rw [NS.os, lkN (by decide +kernel), lkN (by decide +kernel), lkN (by decide +kernel), lkN (by decide +kernel)]
  exact lkY
theorem NS.l_told : n.os.lookup ("told" : Str) = some (.own (.dt n.t)) := by
  rw [NS.os, lkN (by decide +kernel), lkN (by decide +kernel), lkN (by decide +kernel), lkN (by decide +kernel), lkN (by decide +kernel)]
  exact lkY
theorem NS.l_waiting {r : Dt} {w : List Dt} (h : n.x = some (r, w)) : n.os.lookup ("_waiting" : Str) = some (.own (.lst w)) := by
  rw [NS.os, lkN (by decide +kernel), lkN (by decide +kernel), lkN (by decide +kernel), lkN (by decide +kernel), lkN (by decide +kernel), lkN (by decide +kernel), h, rst, lkN (by decide +kernel)]
  exact lkY
theorem NS.l_none {f : Str} (h : (["_owner", "behind", "placed", "declared", "used", "told", "root", "_waiting"] : List Str).contains f = false) : n.os.lookup f = none := by
  simp only [List.contains_cons, Bool.or_eq_false_iff] at h
  obtain ⟨h1, h2, h3, h4, h5, h6, h7, h8, _⟩ := h
  rw [NS.os, lkN h1, lkN h2, lkN h3, lkN h4, lkN h5, lkN h6]
  cases e : n.x with
  | none => rfl
  | some q =>
    obtain ⟨r, w⟩ := q
    rw [rst, lkN h7, lkN h8]
    rfl
theorem NS.p_behind (i : Int) : putFd "behind" (.dat (.int i)) n.os = ({ n with b := i } : NS).os := by
  rw [NS.os, ptN (by decide +kernel), ptY]
  rfl
theorem NS.p_placed (c : Dc) : putFd "placed" (.own (.dt c)) n.os = ({ n with p := c } : NS).os := by
  rw [NS.os, ptN (by decide +kernel), ptN (by decide +kernel), ptY]
  rfl
theorem NS.p_declared (c : Dc) : putFd "declared" (.own (.dt c)) n.os = ({ n with d := c } : NS).os := by
  rw [NS.os, ptN (by decide +kernel), ptN (by decide +kernel), ptN (by decide +kernel), ptY]
  rfl
theorem NS.p_used (c : Dc) : putFd "used" (.own (.dt c)) n.os = ({ n with u := c } : NS).os := by
  rw [NS.os, ptN (by decide +kernel), ptN (by decide +kernel), ptN (by decide +kernel), ptN (by decide +kernel), ptY]
  rfl
theorem NS.p_told (c : Dc) : putFd "told" (.own (.dt c)) n.os = ({ n with t := c } : NS).os := by
  rw [NS.os, ptN (by decide +kernel), ptN (by decide +kernel), ptN (by decide +kernel), ptN (by decide +kernel), ptN (by decide +kernel), ptY]
  rfl
theorem NS.p_waiting {r : Dt} {w0 w : List Dt} (h : n.x = some (r, w0)) : putFd "_waiting" (.own (.lst w)) n.os = ({ n with x := some (r, w) } : NS).os := by
  rw [NS.os, ptN (by decide +kernel), ptN (by decide +kernel), ptN (by decide +kernel), ptN (by decide +kernel), ptN (by decide +kernel), ptN (by decide +kernel), h, rst, ptN (by decide +kernel), ptY]
  rfl
theorem NS.few : n.os.length < 100 := by
  rw [NS.os]
  cases n.x with
  | none => exact Nat.lt_of_lt_of_le (by decide : 6 < 7) (by decide)
  | some q => exact Nat.lt_of_lt_of_le (by decide : 8 < 9) (by decide)
theorem NS.nd : NDf n.os := by
  unfold NDf
  rw [NS.os]
  cases n.x with
  | none =>
    show (["_owner", "behind", "placed", "declared", "used", "told"] : List Str).Nodup
    decide +kernel
  | some q =>
    show (["_owner", "behind", "placed", "declared", "used", "told", "root", "_waiting"] : List Str).Nodup
    decide +kernel
theorem keyD_id (i : Id') : keyD (idt i) = some (idk i) := rfl
end
/-- a method: self and data, a relation between the fields before and behind -/
def wfR (a : Addr) (R : NS → List Dt → Rs → NS → Prop) : WF OS := ⟨fun ds s k => ∃ (n : NS) (es : List Dt) (r : Rs) (n' : NS), s = n.os ∧ ds = .ptr a :: es ∧ R n es r n' ∧ k r n'.os, fun ds s k k' m ⟨n, es, r, n', h1, h2, h3, h⟩ => ⟨n, es, r, n', h1, h2, h3, m _ _ h⟩⟩
def NS.fresh (n : NS) : NS := { n with b := n.b + 1 }
def NS.id (n : NS) : Id' := (n.o, n.b)
def NS.decl (n : NS) (l : Dt) : NS := { n.fresh with d := putT n.d (idk n.id) l }
def NS.use (n : NS) (l : Dt) : NS := { n.fresh with u := putT n.u (idk n.id) l }
def NS.tell (n : NS) (l : Dt) : NS := { n.fresh with t := putT n.t (idk n.id) l }
/-- what the steps of a numbering ask: small tables -/
def NS.sm (n : NS) : Prop := n.p.length < 1000000 ∧ n.d.length < 1000000 ∧ n.u.length < 1000000 ∧ n.t.length < 1000000
def RFresh : NS → List Dt → Rs → NS → Prop := fun n es r n' => es = [] ∧ r = .rt (idt n.id) ∧ n' = n.fresh
def RDecl : NS → List Dt → Rs → NS → Prop := fun n es r n' => ∃ l, es = [l] ∧ n.d.length < 1000000 ∧ r = .rt (idt n.id) ∧ n' = n.decl l
def RUse : NS → List Dt → Rs → NS → Prop := fun n es r n' => ∃ l, es = [l] ∧ n.u.length < 1000000 ∧ r = .rt (idt n.id) ∧ n' = n.use l
/-- what an object of this class is -/
structure NB {K : PySem.W.Frag} {mg : Str → Option Value} (T : Tx K mg) (B : Ob) : Prop where
  C : B.C = T.C_Numbering
section
variable {K : PySem.W.Frag} {mg : Str → Option Value} {T : Tx K mg} {B : Ob} (N : NB T B)
include N
theorem NB.c : Cls K B.C := N.C ▸ T.c_Numbering
theorem NB.owner : NoAttr K B.C "_owner" := N.C ▸ T.n_Numbering__owner
theorem NB.behind : NoAttr K B.C "behind" := N.C ▸ T.n_Numbering_behind
theorem NB.placed : NoAttr K B.C "placed" := N.C ▸ T.n_Numbering_placed
theorem NB.declared : NoAttr K B.C "declared" := N.C ▸ T.n_Numbering_declared
theorem NB.used : NoAttr K B.C "used" := N.C ▸ T.n_Numbering_used
theorem NB.told : NoAttr K B.C "told" := N.C ▸ T.n_Numbering_told
theorem NB.root : NoAttr K B.C "root" := N.C ▸ T.n_Numbering_root
theorem NB.waiting : NoAttr K B.C "_waiting" := N.C ▸ T.n_Numbering__waiting
theorem NB.m_fresh : BMeth K B.C "_fresh" T.f_Numbering_fresh := N.C ▸ T.m_Numbering_fresh
theorem NB.m_enter : BMeth K B.C "_enter" T.f_Numbering_enter := N.C ▸ T.m_Numbering_enter
theorem NB.m_number_row : BMeth K B.C "_number_row" T.f_Numbering_number_row := N.C ▸ T.m_Numbering_number_row
theorem NB.m_number_second_half : BMeth K B.C "_number_second_half" T.f_Numbering_number_second_half := N.C ▸ T.m_Numbering_number_second_half
theorem NB.m_content : BMeth K B.C "_content" T.f_Numbering_content := N.C ▸ T.m_Numbering_content
theorem NB.m_definition : BMeth K B.C "_definition" T.f_Numbering_definition := N.C ▸ T.m_Numbering_definition
theorem NB.m_first_half : BMeth K B.C "_first_half" T.f_Numbering_first_half := N.C ▸ T.m_Numbering_first_half
theorem NB.m_block : BMeth K B.C "_block" T.f_Numbering_block := N.C ▸ T.m_Numbering_block
theorem NB.m_declaration : BMeth K B.C "_declaration" T.f_Numbering_declaration := N.C ▸ T.m_Numbering_declaration
theorem NB.m_use : BMeth K B.C "_use" T.f_Numbering_use := N.C ▸ T.m_Numbering_use
theorem NB.m_leaf : BMeth K B.C "_leaf" T.f_Numbering_leaf := N.C ▸ T.m_Numbering_leaf
theorem NB.m_expression : BMeth K B.C "_expression" T.f_Numbering_expression := N.C ▸ T.m_Numbering_expression
end
/-! ### pure lemmas -/
section
variable {K : PySem.W.Frag} {B : Ob} {Tb : List (Addr × Str)} {ρ : En} {n n' : NS} {i : Nat}
theorem fdAt {fs : OS} {f : Str} {d : Dt} {k : Dt → Prop} (l : fs.lookup f = some (.dat d)) (q : k d) : fdD fs f k := by
  unfold fdD
  rw [l]
  exact q
theorem fld_run {f : Str} {d : Dt} {k : Dt → En × OS → Prop} (hs : ρ[i]? = some (.dat (.ptr B.a))) (l : n.os.lookup f = some (.dat d)) (q : k d (ρ, n.os)) : (wFld (LOT K B Tb) i f).f (ρ, n.os) k := by
  refine ⟨hs, ?_⟩
  show fdD n.os f _
  unfold fdD
  rw [l]
  exact q
theorem meth0_run {m : Str} {R : NS → List Dt → Rs → NS → Prop} {r : Rs} {k : Dt → En × OS → Prop} (hs : ρ[i]? = some (.dat (.ptr B.a))) (l : n.os.lookup m = none) (h : R n [] r n') (q : ansK (fun d s' => k d (ρ, s')) r n'.os) :
    (wMeth (LOT K B Tb) (Lens.id (AmOT K B Tb)) i m (wfR B.a R) wNil).f (ρ, n.os) k := ⟨hs, l, n, [], r, n', rfl, rfl, h, q⟩
theorem meth_run {m : Str} {R : NS → List Dt → Rs → NS → Prop} {wa : WA OS} {k : Dt → En × OS → Prop} (hs : ρ[i]? = some (.dat (.ptr B.a))) (l : n.os.lookup m = none) (ha : wa.f (ρ, n.os) fun ds τ => ∃ m r n', τ.2 = NS.os m ∧ R m ds r n' ∧ ansK (fun d s' => k d (τ.1, s')) r (NS.os n')) :
    (wMeth (LOT K B Tb) (Lens.id (AmOT K B Tb)) i m (wfR B.a R) wa).f (ρ, n.os) k := by
  refine ⟨hs, l, wa.mono _ _ _ (fun ds τ ⟨m, r, n', e, h, q⟩ => ⟨m, ds, r, n', e, rfl, h, q⟩) ha⟩
theorem fput_run {f : Str} {ek ev : WE OS} {c : NS → Dc} {up : NS → Dc → NS} {ks : List Key} {v kd : Dt} {k : Rs → En × OS → Prop} (lk : ∀ n : NS, n.os.lookup f = some (.own (.dt (c n)))) (pt : ∀ (n : NS) (x : Dc), putFd f (.own (.dt x)) n.os = (up n x).os)
    (hs : ρ[i]? = some (.dat (.ptr B.a))) (hv : ev.f (ρ, n.os) fun v' τ => v' = v ∧ τ = (ρ, n'.os)) (hk : ek.f (ρ, n'.os) fun d τ => d = kd ∧ τ = (ρ, n'.os)) (hd : keyD kd = some ks) (few : (c n').length < 1000000) (q : k .nx (ρ, (up n' (putT (c n') ks v)).os)) :
    (wFput (LOT K B Tb) i f ek ev).f (ρ, n.os) k := by
  refine ev.mono _ _ _ (fun v' τ h => ?_) hv
  obtain ⟨rfl, rfl⟩ := h
  refine ⟨hs, ?_⟩
  show fdT n'.os f _
  unfold fdT fdO
  rw [lk n']
  refine ek.mono _ _ _ (fun d τ h => ?_) hk
  obtain ⟨rfl, rfl⟩ := h
  refine ⟨hs, n'.nd, ?_⟩
  show fdT n'.os f _
  unfold fdT fdO
  rw [lk n']
  show optKs (keyD d) _
  rw [hd]
  refine ⟨few, ?_⟩
  show k .nx (ρ, putFd f _ n'.os)
  rw [pt]
  exact q
end
section
variable {P : Program} {w : World} {K : PySem.W.Frag} {mg : Str → Option Value} {base : Heap} (T : Tx K mg) {B : Ob} (N : NB T B) (Tb : List (Addr × Str))
include N
theorem ok_fresh : FnOk P w K mg base CX0 1 T.f_Numbering_fresh T.d_Numbering_fresh ["self"] (spD K (AmOT K B Tb) 1 (wfR B.a RFresh)) := by
  refine T.F_Numbering_fresh.ok sc_Numbering_fresh (spD_len rfl) (fun cdv A outer s H vs Q E hr h => ?_)
  refine d_body (m := 1) h rfl (s_cons (s_set (i := 1) sc_Numbering_fresh.nd rfl (Or.inl rfl) (d_tup (a_cons (d_fld (LOT K B Tb) (pv 0) N.c N.owner) (a_cons (d_fld (LOT K B Tb) (pv 0) N.c N.behind) a_nil))))
    (s_cons (s_fadd (LOT K B Tb) (pv 0) pe_int N.c N.behind) (s_one (s_ret (d_var (pv 1)))))) (fun ds s k hl hw => ?_)
  obtain ⟨n, es, r, n', rfl, rfl, ⟨rfl, rfl, rfl⟩, q⟩ := hw
  refine setS_run ⟨rfl, fdAt n.l_owner ⟨rfl, fdAt n.l_behind ⟨Nat.le_of_ble_eq_true rfl, by show 1 < 2; decide, ?_⟩⟩⟩
  refine ⟨rfl, fdAt n.l_behind ⟨n.few, ?_⟩⟩
  show (wRet (wVar 1) : WS OS).f (_, putFd "behind" _ n.os) _
  rw [n.p_behind]
  exact q
end
end Kx
/-! part K41g -/
namespace Kx
open PySem PySem.Spec PyProof.Rows L2 My DL LamX NdefX
def entAt (b : Dt) (rows : List Dt) (i : Nat) : Dt := .tup [.str "row", b, .int ((i : Nat) + 1), rows.getD i .non]
def entries (b : Dt) (rows : List Dt) : List Dt := (List.range rows.length).reverse.map (entAt b rows)
def NS.push (n : NS) (ds : List Dt) : NS := { n with x := n.x.map fun q => (q.1, q.2 ++ ds) }
def NS.wl (n : NS) : Nat := match n.x with | some (_, w) => w.length | none => 0
def REnter : NS → List Dt → Rs → NS → Prop := fun n es r n' => ∃ b rows, es = [b, .lst rows] ∧ n.x.isSome = true ∧ n.wl + rows.length ≤ 900000 ∧ r = .nx ∧ n' = n.push (entries b rows)
def NS.leaf (n : NS) : Dt → Dt × NS
  | .str z => (.tup [.str "use", idt n.id], n.use (.str z))
  | .tup [_, y] => (.tup [.str "use", idt n.id], n.use y)
  | d => (.tup [.str "number", idt n.id], n.tell d)
def RLeaf : NS → List Dt → Rs → NS → Prop := fun n es r n' => ∃ d, es = [d] ∧ leafB d = true ∧ n.u.length < 1000000 ∧ n.t.length < 1000000 ∧ r = .rt (n.leaf d).1 ∧ n' = (n.leaf d).2
def RBlock : NS → List Dt → Rs → NS → Prop := fun n es r n' => ∃ rows, es = [.lst rows] ∧ n.x.isSome = true ∧ n.wl + rows.length ≤ 900000 ∧ r = .rt (idt n.id) ∧ n' = n.fresh.push (entries (idt n.id) rows)
section
variable {K : PySem.W.Frag} {B : Ob} {Tb : List (Addr × Str)} {ρ : En} {n n' : NS} {i : Nat}
theorem fapp_run {e : WE OS} {d r0 : Dt} {w : List Dt} {k : Rs → En × OS → Prop} (hx : n.x = some (r0, w)) (hs : ρ[i]? = some (.dat (.ptr B.a))) (he : e.f (ρ, n.os) fun d' τ => d' = d ∧ τ = (ρ, n.os)) (l : w.length < 1000000) (q : k .nx (ρ, (n.push [d]).os)) :
    (wFapp (LOT K B Tb) i "_waiting" e).f (ρ, n.os) k := by
  refine ⟨hs, ?_⟩
  show fdL n.os "_waiting" _
  unfold fdL fdO
  rw [n.l_waiting hx]
  refine e.mono _ _ _ (fun d' τ h => ?_) he
  obtain ⟨rfl, rfl⟩ := h
  refine ⟨hs, n.nd, ?_⟩
  show fdL n.os "_waiting" _
  unfold fdL fdO
  rw [n.l_waiting hx]
  refine ⟨l, ?_⟩
  show k .nx (ρ, putFd "_waiting" _ n.os)
  rw [n.p_waiting hx]
  have : n.push [d'] = { n with x := some (r0, w ++ [d']) } := by
    unfold NS.push
    rw [hx]
    rfl
  rw [← this]
  exact q
theorem NS.push_push (n : NS) (a b : List Dt) : (n.push a).push b = n.push (a ++ b) := by
  unfold NS.push
  cases n.x with
  | none => rfl
  | some q => simp
theorem NS.push_nil (n : NS) : n.push [] = n := by
  obtain ⟨o, b, p, d, u, t, x⟩ := n
  cases x with
  | none => rfl
  | some q => simp [NS.push]
theorem NS.push_x (n : NS) {r0 : Dt} {w a : List Dt} (h : n.x = some (r0, w)) : (n.push a).x = some (r0, w ++ a) := by
  unfold NS.push
  rw [h]
  rfl
end
section
variable {P : Program} {w : World} {K : PySem.W.Frag} {mg : Str → Option Value} {base : Heap} (T : Tx K mg) {B : Ob} (N : NB T B) (Tb : List (Addr × Str))
theorem enter_loop {S0 : Sl} {b : Dt} {rows : List Dt} {r0 : Dt} {k : Rs → En × OS → Prop} (hS : S0 = .dat (.ptr B.a)) : ∀ (is : List Nat) (n : NS) (w : List Dt) (a3 : Sl), (∀ i ∈ is, i < rows.length) → n.x = some (r0, w) → w.length + is.length ≤ 900000 →
    (∀ b3, k .nx ([S0, .dat b, .dat (.lst rows), b3], (n.push (is.map (entAt b rows))).os)) →
    lpN (wgName 3) (wFapp (LOT K B Tb) 0 "_waiting" (wTup (wCons (wC (.str "row")) (wCons (wVar 1) (wCons (wO2 (gI fun i j => .int (i + j)) (wVar 3) (wC (.int 1))) (wCons (wO2 gIx (wVar 2) (wVar 3)) wNil)))))) (is.map fun i => Dt.int (i : Nat)) ([S0, .dat b, .dat (.lst rows), a3], n.os) k
  | [], n, w, a3, _, _, _, q => by
    have := q a3
    rw [List.map_nil, n.push_nil] at this
    exact this
  | i :: is, n, w, a3, hi, hx, hl, q => by
    have h1 := hi i List.mem_cons_self
    rw [List.length_cons] at hl
    show (wFapp (LOT K B Tb) 0 "_waiting" _).f ([S0, .dat b, .dat (.lst rows), .dat (.int (i : Nat))], n.os) _
    refine fapp_run (d := entAt b rows i) hx (by rw [hS] <;> rfl) ?_ (by omega) ?_
    · show optK (gIx (.lst rows) (.int (i : Nat))) _
      refine optK_is (gIx_lst (List.getElem?_eq_getElem h1)) ⟨Nat.le_of_ble_eq_true rfl, ?_, rfl⟩
      unfold entAt
      rw [List.getD_eq_getElem?_getD, List.getElem?_eq_getElem h1]
      rfl
    · refine enter_loop hS is (n.push [entAt b rows i]) (w ++ [entAt b rows i]) _ (fun j hj => hi j (List.mem_cons_of_mem _ hj)) (n.push_x hx) (by rw [List.length_append, List.length_singleton]; omega) fun b3 => ?_
      have := q b3
      rw [List.map_cons] at this
      rw [n.push_push]
      exact this
theorem isTup_s (ds : List Dt) : isB (.tup ds) "str" = some false := by
  show kitB "tuple" "str" = some false
  decide +kernel
theorem isStr_s (z : Str) : isB (.str z) "str" = some true := by
  show kitB "str" "str" = some true
  decide +kernel
theorem isInt_s (i : Int) : isB (.int i) "str" = some false := by
  show kitB "int" "str" = some false
  decide +kernel
include N
theorem ok_enter : FnOk P w K mg base CX0 1 T.f_Numbering_enter T.d_Numbering_enter ["self", "block", "rows"] (spD K (AmOT K B Tb) 3 (wfR B.a REnter)) := by
  refine T.F_Numbering_enter.ok sc_Numbering_enter (spD_len rfl) (fun cdv A outer s H vs Q E hr h => ?_)
  refine d_body (m := 1) h rfl (s_one (s_for PassesOwn.never rfl (i_revR (by rfl) T.z_reversed (by rfl) T.z_range (d_callB call_len_seq o_len (by rfl) T.z_len (by decide +kernel) (a_cons (d_var (pv 2)) a_nil))) (pg_name (i := 3) sc_Numbering_enter.nd rfl (Or.inl rfl)) g_name (s_one (s_fapp (LOT K B Tb) (pv 0) N.c N.waiting (d_tup (a_cons (d_str pe_str) (a_cons (d_var (pv 1)) (a_cons (d_bin op_add o_add (d_var (pv 3)) (d_int pe_int)) (a_cons (d_ix ix_seq o_ix (d_var (pv 2)) (d_var (pv 3)) (fun _ _ => rfl)) a_nil))))))))) (fun ds s k hl hw => ?_)
  obtain ⟨n, es, r, n', rfl, rfl, ⟨b, rows, rfl, hx, hl, rfl, rfl⟩, q⟩ := hw
  obtain ⟨⟨r0, wt⟩, hx⟩ := Option.isSome_iff_exists.mp hx
  have hw : n.wl = wt.length := by
    unfold NS.wl
    rw [hx]
  refine ⟨⟨by show -(2 ^ 62) ≤ ((rows.length : Nat) : Int); omega, by show ((rows.length : Nat) : Int) < 2 ^ 62; omega⟩, ?_⟩
  rw [← List.map_reverse]
  refine enter_loop Tb rfl (List.range rows.length).reverse n wt _ (fun i hi => List.mem_range.mp (List.mem_reverse.mp hi)) hx (by rw [List.length_reverse, List.length_range]; omega) fun b3 => q
theorem ok_declaration : FnOk P w K mg base CX0 2 T.f_Numbering_declaration T.d_Numbering_declaration ["self", "label"] (spD K (AmOT K B Tb) 2 (wfR B.a RDecl)) := by
  have M_fresh := ok_fresh (P := P) (w := w) (base := base) T N Tb
  refine T.F_Numbering_declaration.ok sc_Numbering_declaration (spD_len rfl) (fun cdv A outer s H vs Q E hr h => ?_)
  refine d_body (m := 1) h rfl (s_cons (s_set (i := 2) sc_Numbering_declaration.nd rfl (Or.inl rfl) (d_meth0 (LOT K B Tb) (Lens.id (AmOT K B Tb)) (pv 0) N.c N.m_fresh.mt M_fresh (hr.mono (by decide)) T.b_Numbering_fresh))
    (s_cons (s_fput (LOT K B Tb) (Nat.lt_of_le_of_lt (Nat.add_le_add_left (by decide : 1 ≤ 64) _) hr.units) (pv 0) N.c N.declared (d_var (pv 2)) (d_var (pv 1)))
    (s_one (s_ret (d_var (pv 2)))))) (fun ds s k hl hw => ?_)
  obtain ⟨n, es, r, n', rfl, rfl, ⟨l, rfl, few, rfl, rfl⟩, q⟩ := hw
  refine setS_run (meth0_run rfl (n.l_none (by decide +kernel)) ⟨rfl, rfl, rfl⟩ ⟨by show 2 < 3; decide, ?_⟩)
  refine seq_run (fput_run (n := n.fresh) (n' := n.fresh) (c := NS.d) (up := fun n x => { n with d := x }) (fun n => n.l_declared) (fun n x => n.p_declared x) rfl ⟨rfl, rfl⟩ ⟨rfl, rfl⟩ (keyD_id n.id) few ?_)
  exact q
theorem ok_use : FnOk P w K mg base CX0 2 T.f_Numbering_use T.d_Numbering_use ["self", "label"] (spD K (AmOT K B Tb) 2 (wfR B.a RUse)) := by
  have M_fresh := ok_fresh (P := P) (w := w) (base := base) T N Tb
  refine T.F_Numbering_use.ok sc_Numbering_use (spD_len rfl) (fun cdv A outer s H vs Q E hr h => ?_)
  refine d_body (m := 1) h rfl (s_cons (s_set (i := 2) sc_Numbering_use.nd rfl (Or.inl rfl) (d_meth0 (LOT K B Tb) (Lens.id (AmOT K B Tb)) (pv 0) N.c N.m_fresh.mt M_fresh (hr.mono (by decide)) T.b_Numbering_fresh))
    (s_cons (s_fput (LOT K B Tb) (Nat.lt_of_le_of_lt (Nat.add_le_add_left (by decide : 1 ≤ 64) _) hr.units) (pv 0) N.c N.used (d_var (pv 2)) (d_var (pv 1)))
    (s_one (s_ret (d_var (pv 2)))))) (fun ds s k hl hw => ?_)
  obtain ⟨n, es, r, n', rfl, rfl, ⟨l, rfl, few, rfl, rfl⟩, q⟩ := hw
  refine setS_run (meth0_run rfl (n.l_none (by decide +kernel)) ⟨rfl, rfl, rfl⟩ ⟨by show 2 < 3; decide, ?_⟩)
  refine seq_run (fput_run (n := n.fresh) (n' := n.fresh) (c := NS.u) (up := fun n x => { n with u := x }) (fun n => n.l_used) (fun n x => n.p_used x) rfl ⟨rfl, rfl⟩ ⟨rfl, rfl⟩ (keyD_id n.id) few ?_)
  exact q
theorem ok_leaf : FnOk P w K mg base CX0 3 T.f_Numbering_leaf T.d_Numbering_leaf ["self", "leaf"] (spD K (AmOT K B Tb) 2 (wfR B.a RLeaf)) := by
  have M_fresh := ok_fresh (P := P) (w := w) (base := base) T N Tb
  have M_use := ok_use (P := P) (w := w) (base := base) T N Tb
  refine T.F_Numbering_leaf.ok sc_Numbering_leaf (spD_len rfl) (fun cdv A outer s H vs Q E hr h => ?_)
  refine d_body (m := 1) h rfl (s_cons (s_if (t_val (d_isi (d_var (pv 1)) (by rfl) T.z_isinstance (pe_bltn (v := .ty "str") (by rfl) T.z_str (by decide +kernel) rfl))) (s_one (s_ret (d_tup (a_cons (d_str pe_str) (a_cons (d_meth (LOT K B Tb) (Lens.id (AmOT K B Tb)) (pv 0) N.c N.m_use.mt M_use (hr.mono (by decide)) T.b_Numbering_use (a_cons (d_var (pv 1)) a_nil) rfl (la_cons la_nil)) a_nil))))) s_nil)
    (s_cons (s_if (t_val (d_isi (d_var (pv 1)) (by rfl) T.z_isinstance (pe_bltn (v := .ty "tuple") (by rfl) T.z_tuple (by decide +kernel) rfl))) (s_one (s_ret (d_tup (a_cons (d_str pe_str) (a_cons (d_meth (LOT K B Tb) (Lens.id (AmOT K B Tb)) (pv 0) N.c N.m_use.mt M_use (hr.mono (by decide)) T.b_Numbering_use (a_cons (d_ix ix_seq o_ix (d_var (pv 1)) (d_int pe_int) (fun _ _ => rfl)) a_nil) rfl (la_cons la_nil)) a_nil))))) s_nil)
    (s_cons (s_set (i := 2) sc_Numbering_leaf.nd rfl (Or.inl rfl) (d_meth0 (LOT K B Tb) (Lens.id (AmOT K B Tb)) (pv 0) N.c N.m_fresh.mt M_fresh (hr.mono (by decide)) T.b_Numbering_fresh))
    (s_cons (s_fput (LOT K B Tb) (Nat.lt_of_le_of_lt (Nat.add_le_add_left (by decide : 1 ≤ 64) _) hr.units) (pv 0) N.c N.told (d_var (pv 2)) (d_var (pv 1)))
    (s_one (s_ret (d_tup (a_cons (d_str pe_str) (a_cons (d_var (pv 2)) a_nil))))))))) (fun ds s k hl hw => ?_)
  obtain ⟨n, es, r, n', rfl, rfl, ⟨d, rfl, ld, few, few2, rfl, rfl⟩, q⟩ := hw
  cases leafV ld with
  | str z hz =>
    refine isiS_yes rfl (isStr_s _) ?_
    exact ⟨rfl, n.l_none (by decide +kernel), n, _, _, _, rfl, rfl, ⟨_, rfl, few, rfl, rfl⟩, Nat.le_of_ble_eq_true rfl, q⟩
  | tup u x m hz =>
    refine isiS_no rfl (isTup_s _) (isiS_yes rfl (isTup _) ?_)
    exact ⟨rfl, n.l_none (by decide +kernel), n, _, _, _, rfl, rfl, ⟨_, rfl, few, rfl, rfl⟩, Nat.le_of_ble_eq_true rfl, q⟩
  | int i =>
    refine isiS_no rfl (isInt_s _) (isiS_no rfl (isTupI _) ?_)
    refine setS_run (meth0_run rfl (n.l_none (by decide +kernel)) ⟨rfl, rfl, rfl⟩ ⟨by show 2 < 3; decide, ?_⟩)
    refine seq_run (fput_run (n := n.fresh) (n' := n.fresh) (c := NS.t) (up := fun n x => { n with t := x }) (fun n => n.l_told) (fun n x => n.p_told x) rfl ⟨rfl, rfl⟩ ⟨rfl, rfl⟩ (keyD_id n.id) few2 ?_)
    exact ⟨Nat.le_of_ble_eq_true rfl, q⟩
theorem ok_block : FnOk P w K mg base CX0 2 T.f_Numbering_block T.d_Numbering_block ["self", "rows"] (spD K (AmOT K B Tb) 2 (wfR B.a RBlock)) := by
  have M_fresh := ok_fresh (P := P) (w := w) (base := base) T N Tb
  have M_enter := ok_enter (P := P) (w := w) (base := base) T N Tb
  refine T.F_Numbering_block.ok sc_Numbering_block (spD_len rfl) (fun cdv A outer s H vs Q E hr h => ?_)
  refine d_body (m := 1) h rfl (s_cons (s_set (i := 2) sc_Numbering_block.nd rfl (Or.inl rfl) (d_meth0 (LOT K B Tb) (Lens.id (AmOT K B Tb)) (pv 0) N.c N.m_fresh.mt M_fresh (hr.mono (by decide)) T.b_Numbering_fresh))
    (s_cons (s_exp (d_meth (LOT K B Tb) (Lens.id (AmOT K B Tb)) (pv 0) N.c N.m_enter.mt M_enter (hr.mono (by decide)) T.b_Numbering_enter (a_cons (d_var (pv 2)) (a_cons (d_var (pv 1)) a_nil)) rfl (la_cons (la_cons la_nil))))
    (s_one (s_ret (d_var (pv 2)))))) (fun ds s k hl hw => ?_)
  obtain ⟨n, es, r, n', rfl, rfl, ⟨rows, rfl, hx, hl, rfl, rfl⟩, q⟩ := hw
  refine setS_run (meth0_run rfl (n.l_none (by decide +kernel)) ⟨rfl, rfl, rfl⟩ ⟨by show 2 < 3; decide, ?_⟩)
  refine seq_run (meth_run (n := n.fresh) rfl (n.fresh.l_none (by decide +kernel)) ⟨n.fresh, _, _, rfl, ⟨_, _, rfl, hx, hl, rfl, rfl⟩, q⟩)
end
end Kx
/-! part K41h -/
namespace Kx
open PySem PySem.Spec PyProof.Rows L2 My DL LamX NdefX
/-- the code object of the method that makes a lambda, and its table -/
structure TbN (K : PySem.W.Frag) (mg : Str → Option Value) (base : Heap) (T : Tx K mg) where
  c : Addr
  P : Addr
  code : T.d_Numbering_expression.code = .ref c
  tb : TabB base mg c P
abbrev qlamN : Str := ("Numbering._expression" ++ ".<locals>.") ++ "<lambda>"
def NS.expr : NS → Tr → Dt × NS
  | n, .leaf d => n.leaf d
  | n, .op z l r => (.tup [.str z, (n.expr l).1, ((n.expr l).2.expr r).1], ((n.expr l).2.expr r).2)
theorem putT_len (ps : Dc) (k : List Key) (d : Dt) : (putT ps k d).length ≤ ps.length + 1 := by
  unfold putT
  split
  · rw [List.length_map]
    omega
  · rw [List.length_append, List.length_singleton]
    exact Nat.le_refl _
/-- a step of a numbering: tables grow by at most m, the rest stands -/
structure Grw (m : Nat) (n n' : NS) : Prop where
  p : n'.p = n.p
  d : n'.d.length ≤ n.d.length + m
  u : n'.u.length ≤ n.u.length + m
  t : n'.t.length ≤ n.t.length + m
  x : n'.x = n.x
theorem Grw.refl {n : NS} : Grw 0 n n := ⟨rfl, Nat.le_refl _, Nat.le_refl _, Nat.le_refl _, rfl⟩
theorem Grw.trans {a b : Nat} {n n1 n2 : NS} (x : Grw a n n1) (y : Grw b n1 n2) : Grw (a + b) n n2 :=
  ⟨y.p.trans x.p, by have := x.d; have := y.d; omega, by have := x.u; have := y.u; omega, by have := x.t; have := y.t; omega, y.x.trans x.x⟩
theorem Grw.mono {a b : Nat} {n n1 : NS} (x : Grw a n n1) (h : a ≤ b) : Grw b n n1 := ⟨x.p, by have := x.d; omega, by have := x.u; omega, by have := x.t; omega, x.x⟩
theorem grw_fresh (n : NS) : Grw 0 n n.fresh := ⟨rfl, Nat.le_refl _, Nat.le_refl _, Nat.le_refl _, rfl⟩
theorem grw_decl (n : NS) (l : Dt) : Grw 1 n (n.decl l) := ⟨rfl, putT_len _ _ _, Nat.le_succ _, Nat.le_succ _, rfl⟩
theorem grw_use (n : NS) (l : Dt) : Grw 1 n (n.use l) := ⟨rfl, Nat.le_succ _, putT_len _ _ _, Nat.le_succ _, rfl⟩
theorem grw_tell (n : NS) (l : Dt) : Grw 1 n (n.tell l) := ⟨rfl, Nat.le_succ _, Nat.le_succ _, putT_len _ _ _, rfl⟩
theorem grw_leaf (n : NS) (d : Dt) : Grw 1 n (n.leaf d).2 := by
  unfold NS.leaf
  split
  · exact grw_use _ _
  · exact grw_use _ _
  · exact grw_tell _ _
theorem grw_expr : ∀ (t : Tr) (n : NS), Grw t.size n (n.expr t).2
  | .leaf d, n => grw_leaf n d
  | .op z l r, n => ((grw_expr l n).trans (grw_expr r (n.expr l).2)).mono (Nat.le_succ _)
def RExpr : NS → List Dt → Rs → NS → Prop := fun n es r n' => ∃ t : Tr, es = [t.dt] ∧ t.ok = true ∧ t.size ≤ 1000 ∧ n.u.length ≤ 999000 ∧ n.t.length ≤ 999000 ∧ r = .rt (n.expr t).1 ∧ n' = (n.expr t).2
def lfN (a : Addr) : WF OS := ⟨fun ds s k => (wfR a RLeaf).f (.ptr a :: ds) s k, fun ds s k k' m h => (wfR a RLeaf).mono _ _ _ _ m h⟩
def wfSign {S : Type} : WF S := ⟨fun ds s k => ∃ a b c, ds = [a, b, c] ∧ k (.rt (.tup [a, b, c])) s, fun ds s k k' m ⟨u, x, n, e, h⟩ => ⟨u, x, n, e, m _ _ h⟩⟩
theorem fold_expr (a : Addr) : ∀ (t : Tr) (n : NS) {k : Dt → OS → Prop}, t.ok = true → n.u.length + t.size ≤ 1000000 → n.t.length + t.size ≤ 1000000 → k (n.expr t).1 (n.expr t).2.os → foldT (lfN a) wfSign t n.os k
  | .leaf d, n, k, ok, h1, h2, q => ⟨n, _, _, _, rfl, rfl, ⟨d, rfl, ok, h1, h2, rfl, rfl⟩, q⟩
  | .op z l r, n, k, ok, h1, h2, q => by
    have e1 : (signs.contains z && (l.ok && r.ok)) = true := ok
    obtain ⟨e2, e3⟩ := Bool.and_eq_true_iff.mp e1
    obtain ⟨e4, e5⟩ := Bool.and_eq_true_iff.mp e3
    have h1 : n.u.length + (l.size + r.size + 1) ≤ 1000000 := h1
    have h2 : n.t.length + (l.size + r.size + 1) ≤ 1000000 := h2
    have g := grw_expr l n
    have := g.u
    have := g.t
    show foldT (lfN a) wfSign l n.os fun dl s1 => foldT (lfN a) wfSign r s1 fun dr s2 => wfSign.f [.str z, dl, dr] s2 (ansK k)
    exact fold_expr a l n e4 (by omega) (by omega) (fold_expr a r (n.expr l).2 e5 (by omega) (by omega) ⟨_, _, _, rfl, q⟩)
/-- what is asked of folded here -/
def wfEF (a g : Addr) : WF OS := ⟨fun ds s k => ∃ (t : Tr) (n : NS) (g2 : Dt), ds = [t.dt, .met g a, g2] ∧ s = n.os ∧ t.ok = true ∧ t.size ≤ 1000 ∧ n.u.length ≤ 999000 ∧ n.t.length ≤ 999000 ∧ k (.rt (n.expr t).1) (n.expr t).2.os,
  fun ds s k k' m ⟨t, n, g2, h1, h2, h3, h4, h5, h6, h⟩ => ⟨t, n, g2, h1, h2, h3, h4, h5, h6, m _ _ h⟩⟩
section
variable {P : Program} {w : World} {K : PySem.W.Frag} {mg : Str → Option Value} {base : Heap} (T : Tx K mg) (SD : Ts K w mg) {B : Ob} (N : NB T B) (Tb : List (Addr × Str)) (TN : TbN K mg base T)
theorem acts {A : Am OS} {f2 : Addr} {L : Lens A (AmOT K B Tb)} (hg : ∀ s, L.get s = s) (hp : ∀ s s', L.put s s' = s') : Acts (.dat (.met T.f_Numbering_leaf B.a)) (.dat (.ptr f2)) (lfN B.a) (wfSign (S := OS)) (wCallM L 1 T.f_Numbering_leaf B.a (wfR B.a RLeaf) (wCons (wVar 4) wNil)) (wCallV A 2 f2 wfSign (wCons (wVar 4) (wCons (wVar 6) (wCons (wVar 5) wNil)))) := by
  refine ⟨fun a0 a5 a6 dn d s k h => ⟨rfl, ?_⟩, fun a0 dn z l r s k h => ⟨rfl, ?_⟩⟩
  · show (wfR B.a RLeaf).f [.ptr B.a, d] (L.get s) (ansK fun d' s' => _ ∧ k d' (L.put s s'))
    rw [hg s]
    exact (wfR B.a RLeaf).mono _ _ _ _ (ansK_mono fun d' s' h' => ⟨rfl, by rw [hp]; exact h'⟩) h
  · exact wfSign.mono _ _ _ _ (ansK_mono fun d' s' h' => ⟨rfl, h'⟩) h
include SD N in
set_option maxHeartbeats 4000000 in
theorem ok_expression (hT : HasTab (AmT Tb) TN.P qlamN) : FnOk P w K mg base CX0 5 T.f_Numbering_expression T.d_Numbering_expression ["self", "expression"] (spD K (AmOT K B Tb) 2 (wfR B.a RExpr)) := by
  have M_leaf := ok_leaf (P := P) (w := w) (base := base) T N Tb
  refine okCode T.F_Numbering_expression sc_Numbering_expression (spD_len rfl) (fun cdv A outer s H vs Q E hcd hr h => ?_)
  refine d_body (m := 0) h rfl (s_one (s_ret (d_call1L (k := 3) (m := 4) (fr2 := []) (js := []) (js2 := []) (wfF := fun _ => wfEF B.a T.f_Numbering_leaf) (Ng := N_folded) (by rfl) T.g_folded T.F_folded sc_folded T.b_folded TN.tb (by rw [← TN.code, ← hcd] <;> rfl) (hr.mono (by decide))
    ⟨ndef_free (sc := defScope s_Numbering_expression) (fr := []) (by decide +kernel), ndef_fr (fr := []) (sc := defScope s_Numbering_expression) (by decide +kernel), rfl⟩ (by rfl) (hasTab_OT hT) (d_var (pv 1)) (d_bmv (LOT K B Tb) (pv 0) N.c N.m_leaf) rfl ?_))) (fun ds s k hl hw => ?_)
  · intro σ f2 c2 s H us ds τ cdv2 l2 cd hr'
    refine ⟨_, folded_body T SD (k := 3) (w1 := wCallM (Lens.ofC (AmOT K B Tb) K us ds [(c2, qlamN)]) 1 T.f_Numbering_leaf B.a (wfR B.a RLeaf) (wCons (wVar 4) wNil)) (w2 := wCallV (AmC (AmOT K B Tb) K us ds [(c2, qlamN)]) 2 f2 wfSign (wCons (wVar 4) (wCons (wVar 6) (wCons (wVar 5) wNil)))) (by decide) hr' (fun p1 p2 p3 => ?_) (fun p1 p2 p3 p4 p5 => ?_), ?_⟩
    · exact d_callM (Lens.ofC (AmOT K B Tb) K us ds [(c2, qlamN)]) M_leaf (hr'.mono (by decide)) N.m_leaf.fi T.b_Numbering_leaf (by rfl) (Or.inl rfl) (a_cons (d_var (pv 4)) a_nil) rfl (la_cons la_nil)
    · refine d_lamN (k := 2) (n := 3) (ps := ["sign", "left", "right"]) (fr := []) (ws := []) (lam_ok (N := ["sign", "left", "right"]) (nscope_by (by dsimp only [lamF]; decide +kernel)) (fun pm ctv us hl => match us, hl with | [_, _, _], _ => rfl) (fun ws vs H Q E h => spD_len (ps := ["sign", "left", "right"]) rfl _ _ _ _ h.2) (fun A' outer' s' H' vs' ws' Q' hr1 hl1 ⟨ews, h'⟩ => ?_)) l2.at_ l2.none l2.nfr l2.cells hr' (by decide) (fun s P H h => (h.2.2 _ List.mem_cons_self).2) (by rfl) (Or.inl rfl) (a_cons (d_var (pv 4)) (a_cons (d_var (pv 6)) (a_cons (d_var (pv 5)) a_nil))) rfl (la_cons (la_cons (la_cons la_nil)))
      subst ews
      refine ⟨_, (d_tup (K := K) (A := AmC (AmOT K B Tb) K us ds [(c2, qlamN)]) (a_cons (d_var (pv 0)) (a_cons (d_var (pv 1)) (a_cons (d_var (pv 2)) a_nil)))), ?_⟩
      refine d_startF (m := 0) (cus := []) (cds := []) h' rfl (fun s F H am => .nil) (fun ds s k hl hw => ?_)
      obtain ⟨a, b, c, rfl, q⟩ := hw
      exact ⟨Nat.le_of_ble_eq_true rfl, q⟩
    · rintro d0 d1 k ⟨t, n, g2, e1, e2, ok, sz, h1, h2, q⟩
      cases e1
      rw [e2]
      exact fold_pure (acts T Tb (fun _ => rfl) (fun _ _ => rfl)) ok sz (fold_expr B.a t n ok (by omega) (by omega) q)
  · obtain ⟨n, es, r, n', rfl, rfl, ⟨t, rfl, ok, sz, h1, h2, rfl, rfl⟩, q⟩ := hw
    refine ⟨rfl, n.l_none (by decide +kernel), ?_⟩
    refine ⟨(fun j hj => by cases hj), fun f2 => ?_⟩
    exact ⟨t, n, _, rfl, rfl, ok, sz, h1, h2, q⟩
end
end Kx
/-! part K41i -/
namespace Kx
open PySem PySem.Spec PyProof.Rows L2 My DL LamX NdefX
/-! ### rows -/
inductive Rw where
  | let_ (x : Dt) (e : Tr) | set_ (x : Dt) (e : Tr) | read_ (x : Dt) | out_ (e : Tr) | do_ (x : Dt) (es : List Tr) | def_ (x : Dt) (ls rows : List Dt) | if_ (e : Tr) (r1 r2 : List Dt) | rep_ (e : Tr) (rows : List Dt) | blk_ (rows : List Dt)
def Rw.dt : Rw → Dt
  | .let_ x e => .tup [.str "let", x, e.dt]
  | .set_ x e => .tup [.str "set", x, e.dt]
  | .read_ x => .tup [.str "read", x]
  | .out_ e => .tup [.str "out", e.dt]
  | .do_ x es => .tup [.str "do", x, .tup (es.map Tr.dt)]
  | .def_ x ls rows => .tup [.str "def", x, .tup ls, .lst rows]
  | .if_ e r1 r2 => .tup [.str "if", e.dt, .lst r1, .lst r2]
  | .rep_ e rows => .tup [.str "repeat", e.dt, .lst rows]
  | .blk_ rows => .tup [.str "block", .lst rows]
def Rw.trees : Rw → List Tr
  | .let_ _ e => [e]
  | .set_ _ e => [e]
  | .out_ e => [e]
  | .do_ _ es => es
  | .if_ e _ _ => [e]
  | .rep_ e _ => [e]
  | _ => []
def Rw.kids : Rw → Nat
  | .def_ _ _ rows => rows.length
  | .if_ _ r1 _ => r1.length
  | .rep_ _ rows => rows.length
  | .blk_ rows => rows.length
  | _ => 0
def Rw.ok (r : Rw) : Prop := (∀ e ∈ r.trees, e.ok = true ∧ e.size ≤ 1000) ∧ r.trees.length ≤ 100 ∧ r.kids ≤ 100000 ∧ match r with
  | .def_ _ ls _ => ls.length ≤ 100
  | _ => True
def NS.declL : NS → List Dt → List Dt × NS
  | n, [] => ([], n)
  | n, l :: ls => (idt n.id :: ((n.decl l).declL ls).1, ((n.decl l).declL ls).2)
def NS.exprL : NS → List Tr → List Dt × NS
  | n, [] => ([], n)
  | n, e :: es => ((n.expr e).1 :: ((n.expr e).2.exprL es).1, ((n.expr e).2.exprL es).2)
def NS.blk (n : NS) (rows : List Dt) : NS := n.fresh.push (entries (idt n.id) rows)
def NS.content (n : NS) (th : Dt) : Rw → Dt × NS
  | .let_ x e => (.tup [.str "let", idt n.id, ((n.decl x).expr e).1], ((n.decl x).expr e).2)
  | .set_ x e => (.tup [.str "set", idt n.id, ((n.use x).expr e).1], ((n.use x).expr e).2)
  | .read_ x => (.tup [.str "read", idt n.id], n.use x)
  | .out_ e => (.tup [.str "out", (n.expr e).1], (n.expr e).2)
  | .do_ x es => (.tup [.str "do", idt n.id, .tup ((n.use x).exprL es).1], ((n.use x).exprL es).2)
  | .def_ x ls rows => (.tup [.str "def", idt n.id, .tup ((n.decl x).fresh.declL ls).1, idt (n.decl x).id], ((n.decl x).fresh.declL ls).2.push (entries (idt (n.decl x).id) rows))
  | .if_ e r1 r2 => (.tup [.str "if", (n.expr e).1, idt (n.expr e).2.id], ((n.expr e).2.push [.tup [.str "second half", th, .lst r2]]).blk r1)
  | .rep_ e rows => (.tup [.str "repeat", (n.expr e).1, idt (n.expr e).2.id], (n.expr e).2.blk rows)
  | .blk_ rows => (.tup [.str "block", idt n.id], n.blk rows)
theorem declL_len : ∀ (ls : List Dt) (n : NS), (n.declL ls).1.length = ls.length
  | [], n => rfl
  | l :: ls, n => by
    show ((n.decl l).declL ls).1.length + 1 = _
    rw [declL_len ls, List.length_cons]
theorem exprL_len : ∀ (ls : List Tr) (n : NS), (n.exprL ls).1.length = ls.length
  | [], n => rfl
  | l :: ls, n => by
    show ((n.expr l).2.exprL ls).1.length + 1 = _
    rw [exprL_len ls, List.length_cons]
theorem grw_declL : ∀ (ls : List Dt) (n : NS), Grw ls.length n (n.declL ls).2
  | [], n => Grw.refl
  | l :: ls, n => ((grw_decl n l).trans (grw_declL ls (n.decl l))).mono (by rw [List.length_cons]; omega)
theorem grw_exprL : ∀ (ls : List Tr) (n : NS), (∀ e ∈ ls, e.size ≤ 1000) → Grw (1000 * ls.length) n (n.exprL ls).2
  | [], n, _ => Grw.refl
  | l :: ls, n, h => ((grw_expr l n).trans (grw_exprL ls (n.expr l).2 fun e he => h e (List.mem_cons_of_mem _ he))).mono (by have := h l List.mem_cons_self; rw [List.length_cons]; omega)
/-- R for one thing after another -/
inductive MapR (R : NS → List Dt → Rs → NS → Prop) : NS → List Dt → List Dt → NS → Prop
  | nil {n : NS} : MapR R n [] [] n
  | cons {n n1 n2 : NS} {d e : Dt} {ds es : List Dt} : R n [d] (.rt e) n1 → MapR R n1 ds es n2 → MapR R n (d :: ds) (e :: es) n2
theorem map_decl : ∀ (ls : List Dt) (n : NS), n.d.length + ls.length ≤ 900000 → MapR RDecl n ls (n.declL ls).1 (n.declL ls).2
  | [], n, _ => .nil
  | l :: ls, n, h => by
    rw [List.length_cons] at h
    have := (grw_decl n l).d
    exact .cons ⟨l, rfl, by omega, rfl, rfl⟩ (map_decl ls (n.decl l) (by omega))
theorem map_expr : ∀ (ls : List Tr) (n : NS), (∀ e ∈ ls, e.ok = true ∧ e.size ≤ 1000) → n.u.length + 1000 * ls.length ≤ 999000 → n.t.length + 1000 * ls.length ≤ 999000 → MapR RExpr n (ls.map Tr.dt) (n.exprL ls).1 (n.exprL ls).2
  | [], n, _, _, _ => .nil
  | l :: ls, n, h, h1, h2 => by
    rw [List.length_cons] at h1 h2
    obtain ⟨o, z⟩ := h l List.mem_cons_self
    have g := grw_expr l n
    have := g.u
    have := g.t
    exact .cons ⟨l, rfl, o, z, by omega, by omega, rfl, rfl⟩ (map_expr ls (n.expr l).2 (fun e he => h e (List.mem_cons_of_mem _ he)) (by omega) (by omega))
def NS.small (n : NS) : Prop := n.d.length ≤ 800000 ∧ n.u.length ≤ 800000 ∧ n.t.length ≤ 800000 ∧ n.x.isSome = true ∧ n.wl ≤ 700000
def RDef : NS → List Dt → Rs → NS → Prop := fun n es r n' => ∃ x ls rows, es = [(Rw.def_ x ls rows).dt] ∧ ls.length ≤ 100 ∧ rows.length ≤ 100000 ∧ n.small ∧ r = .rt (n.content .non (.def_ x ls rows)).1 ∧ n' = (n.content .non (.def_ x ls rows)).2
def RFirst : NS → List Dt → Rs → NS → Prop := fun n es r n' => ∃ th e r1 r2, es = [th, (Rw.if_ e r1 r2).dt] ∧ e.ok = true ∧ e.size ≤ 1000 ∧ r1.length ≤ 100000 ∧ n.small ∧ r = .rt (n.content th (.if_ e r1 r2)).1 ∧ n' = (n.content th (.if_ e r1 r2)).2
def RCont : NS → List Dt → Rs → NS → Prop := fun n es r n' => ∃ th row, es = [th, row.dt] ∧ row.ok ∧ n.small ∧ r = .rt (n.content th row).1 ∧ n' = (n.content th row).2
theorem NS.wl_push (n : NS) (h : n.x.isSome = true) (ds : List Dt) : (n.push ds).x.isSome = true ∧ (n.push ds).wl = n.wl + ds.length := by
  obtain ⟨o, b, p, d, u, t, x⟩ := n
  cases x with
  | none => cases h
  | some q => exact ⟨rfl, by simp [NS.push, NS.wl]⟩
theorem wl_eq {n n' : NS} (h : n'.x = n.x) : n'.wl = n.wl := by
  unfold NS.wl
  rw [h]
section
variable {K : PySem.W.Frag} {B : Ob} {Tb : List (Addr × Str)} {ρ : En} {i : Nat}
theorem lc_meth {m : Str} {R : NS → List Dt → Rs → NS → Prop} (hs : ρ[0]? = some (.dat (.ptr B.a))) (hi : i < ρ.length) (h0 : i ≠ 0) (hm : (["_owner", "behind", "placed", "declared", "used", "told", "root", "_waiting"] : List Str).contains m = false) : ∀ {n n' : NS} {ds es : List Dt} (acc : List Dt) {k : List Dt → OS → Prop}, MapR R n ds es n' → acc.length + ds.length ≤ 1000000 → k (acc ++ es) n'.os →
    lcN (wgName i) wYes (wMeth (LOT K B Tb) (Lens.id (AmOT K B Tb)) 0 m (wfR B.a R) (wCons (wVar i) wNil)) ρ ds n.os acc k
  | _, _, _, _, acc, k, .nil, _, q => by
    rw [List.append_nil] at q
    exact q
  | n, n', _, _, acc, k, .cons (d := d) (e := e) (ds := ds) (es := es) r s, l, q => by
    rw [List.length_cons] at l
    refine ⟨by omega, ?_⟩
    show optEn (if i < ρ.length then some (ρ.set i (.dat d)) else none) _
    rw [if_pos hi]
    refine ⟨by show (ρ.set i (.dat d))[0]? = _; rw [List.getElem?_set_ne h0]; exact hs, n.l_none hm, ?_⟩
    refine consVar (d := d) (by show (ρ.set i (.dat d))[i]? = _; rw [List.getElem?_set_self hi]) ?_
    refine ⟨n, [d], .rt e, _, rfl, rfl, r, ?_⟩
    refine lc_meth hs hi h0 hm (acc ++ [e]) s (by rw [List.length_append, List.length_singleton]; omega) ?_
    rw [List.append_assoc]
    exact q
end
section
variable {P : Program} {w : World} {K : PySem.W.Frag} {mg : Str → Option Value} {base : Heap} (T : Tx K mg) (SD : Ts K w mg) {B : Ob} (N : NB T B) (Tb : List (Addr × Str)) (TN : TbN K mg base T)
include N in
set_option maxHeartbeats 4000000 in
theorem ok_definition : FnOk P w K mg base CX0 3 T.f_Numbering_definition T.d_Numbering_definition ["self", "row"] (spD K (AmOT K B Tb) 2 (wfR B.a RDef)) := by
  have M_fresh := ok_fresh (P := P) (w := w) (base := base) T N Tb
  have M_enter := ok_enter (P := P) (w := w) (base := base) T N Tb
  have M_declaration := ok_declaration (P := P) (w := w) (base := base) T N Tb
  refine T.F_Numbering_definition.ok sc_Numbering_definition (spD_len rfl) (fun cdv A outer s H vs Q E hr h => ?_)
  refine d_body (m := 8) h rfl (s_cons (s_asg (d_var (pv 1)) (pg_tup rfl (pgs_cons (pg_name (i := 2) sc_Numbering_definition.nd rfl (Or.inl rfl)) (pgs_cons (pg_name (i := 3) sc_Numbering_definition.nd rfl (Or.inl rfl)) (pgs_cons (pg_name (i := 4) sc_Numbering_definition.nd rfl (Or.inl rfl)) (pgs_cons (pg_name (i := 5) sc_Numbering_definition.nd rfl (Or.inl rfl)) pgs_nil))))) (g_tup (g_cons g_name (g_cons g_name (g_cons g_name (g_cons g_name g_nil)))) (n_cons (n_cons (n_cons (n_cons n_nil))))))
    (s_cons (s_set (i := 6) sc_Numbering_definition.nd rfl (Or.inl rfl) (d_meth (LOT K B Tb) (Lens.id (AmOT K B Tb)) (pv 0) N.c N.m_declaration.mt M_declaration (hr.mono (by decide)) T.b_Numbering_declaration (a_cons (d_var (pv 3)) a_nil) rfl (la_cons la_nil)))
    (s_cons (s_set (i := 7) sc_Numbering_definition.nd rfl (Or.inl rfl) (d_meth0 (LOT K B Tb) (Lens.id (AmOT K B Tb)) (pv 0) N.c N.m_fresh.mt M_fresh (hr.mono (by decide)) T.b_Numbering_fresh))
    (s_cons (s_set (i := 8) sc_Numbering_definition.nd rfl (Or.inl rfl) (d_callTy call_tuple_of o_tupOf (by rfl) T.z_tuple (by decide +kernel) (a_cons (d_lc (own := [("parameter", 9)]) rfl sc_Numbering_definition.nd (i_tup (d_var (pv 4))) (blkOk_by (N := N_Numbering_definition) (sc := defScope s_Numbering_definition) (by decide +kernel)) (fun _ _ _ _ _ => pg_name (i := 9) sc_Numbering_definition.nd rfl (Or.inl rfl)) g_name (gw_name (by decide)) (fun _ _ _ _ _ => ts_nil) (fun _ _ _ _ _ => (d_meth (LOT K B Tb) (Lens.id (AmOT K B Tb)) (pv 0) N.c N.m_declaration.mt M_declaration (hr.mono (by decide)) T.b_Numbering_declaration (a_cons (d_var (pv 9)) a_nil) rfl (la_cons la_nil)))) a_nil)))
    (s_cons (s_exp (d_meth (LOT K B Tb) (Lens.id (AmOT K B Tb)) (pv 0) N.c N.m_enter.mt M_enter (hr.mono (by decide)) T.b_Numbering_enter (a_cons (d_var (pv 7)) (a_cons (d_var (pv 5)) a_nil)) rfl (la_cons (la_cons la_nil))))
    (s_one (s_ret (d_tup (a_cons (d_var (pv 2)) (a_cons (d_var (pv 6)) (a_cons (d_var (pv 8)) (a_cons (d_var (pv 7)) a_nil)))))))))))) (fun ds s k hl hw => ?_)
  obtain ⟨n, es, r, n', rfl, rfl, ⟨x, ls, rows, rfl, l1, l2, ⟨s1, s2, s3, s4, s5⟩, rfl, rfl⟩, q⟩ := hw
  refine asg_run ⟨_, rfl, ?_⟩
  have g1 := grw_decl n x
  have g2 := grw_declL ls (n.decl x).fresh
  have e1 := g1.d
  have e2 : (n.decl x).fresh.d.length = (n.decl x).d.length := rfl
  have e3 : ((n.decl x).fresh.declL ls).2.x = n.x := g2.x
  refine setS_run (meth_run (n := n) rfl (n.l_none (by decide +kernel)) ⟨n, _, _, rfl, ⟨_, rfl, by omega, rfl, rfl⟩, (by show 6 < 10; decide), ?_⟩)
  refine setS_run (meth0_run (n := n.decl x) rfl ((n.decl x).l_none (by decide +kernel)) ⟨rfl, rfl, rfl⟩ ⟨by show 7 < 10; decide, ?_⟩)
  refine setS_run ?_
  refine lc_meth (n := (n.decl x).fresh) rfl (by show 9 < 10; decide) (by decide) (by decide +kernel) [] (map_decl ls _ (by omega)) (by show 0 + ls.length ≤ 1000000; omega) ?_
  refine ⟨by rw [List.nil_append, declL_len]; omega, (by show 8 < 10; decide), ?_⟩
  refine seq_run (meth_run (n := ((n.decl x).fresh.declL ls).2) rfl (NS.l_none _ (by decide +kernel)) ⟨_, _, _, rfl, ⟨_, _, rfl, by rw [e3]; exact s4, by rw [wl_eq e3]; omega, rfl, rfl⟩, ?_⟩)
  exact ⟨Nat.le_of_ble_eq_true rfl, q⟩
include SD N in
set_option maxHeartbeats 4000000 in
theorem ok_first_half (hT : HasTab (AmT Tb) TN.P qlamN) : FnOk P w K mg base CX0 6 T.f_Numbering_first_half T.d_Numbering_first_half ["self", "thing", "row"] (spD K (AmOT K B Tb) 3 (wfR B.a RFirst)) := by
  have M_expression := ok_expression (P := P) (w := w) (base := base) T SD N Tb TN hT
  have M_block := ok_block (P := P) (w := w) (base := base) T N Tb
  refine T.F_Numbering_first_half.ok sc_Numbering_first_half (spD_len rfl) (fun cdv A outer s H vs Q E hr h => ?_)
  refine d_body (m := 4) h rfl (s_cons (s_asg (d_var (pv 2)) (pg_tup rfl (pgs_cons (pg_name (i := 3) sc_Numbering_first_half.nd rfl (Or.inl rfl)) (pgs_cons (pg_name (i := 4) sc_Numbering_first_half.nd rfl (Or.inl rfl)) (pgs_cons (pg_name (i := 5) sc_Numbering_first_half.nd rfl (Or.inl rfl)) (pgs_cons (pg_name (i := 6) sc_Numbering_first_half.nd rfl (Or.inl rfl)) pgs_nil))))) (g_tup (g_cons g_name (g_cons g_name (g_cons g_name (g_cons g_name g_nil)))) (n_cons (n_cons (n_cons (n_cons n_nil))))))
    (s_cons (s_set (i := 4) sc_Numbering_first_half.nd rfl (Or.inl rfl) (d_meth (LOT K B Tb) (Lens.id (AmOT K B Tb)) (pv 0) N.c N.m_expression.mt M_expression (hr.mono (by decide)) T.b_Numbering_expression (a_cons (d_var (pv 4)) a_nil) rfl (la_cons la_nil)))
    (s_cons (s_fapp (LOT K B Tb) (pv 0) N.c N.waiting (d_tup (a_cons (d_str pe_str) (a_cons (d_var (pv 1)) (a_cons (d_var (pv 6)) a_nil)))))
    (s_one (s_ret (d_tup (a_cons (d_var (pv 3)) (a_cons (d_var (pv 4)) (a_cons (d_meth (LOT K B Tb) (Lens.id (AmOT K B Tb)) (pv 0) N.c N.m_block.mt M_block (hr.mono (by decide)) T.b_Numbering_block (a_cons (d_var (pv 5)) a_nil) rfl (la_cons la_nil)) a_nil))))))))) (fun ds s k hl hw => ?_)
  obtain ⟨n, es, r, n', rfl, rfl, ⟨th, e, r1, r2, rfl, o, z, l1, ⟨s1, s2, s3, s4, s5⟩, rfl, rfl⟩, q⟩ := hw
  refine asg_run ⟨_, rfl, ?_⟩
  have g1 := grw_expr e n
  have e1 := g1.x
  obtain ⟨⟨r0, wt⟩, hx⟩ := Option.isSome_iff_exists.mp s4
  have hw : n.wl = wt.length := by
    unfold NS.wl
    rw [hx]
  have p := NS.wl_push (n.expr e).2 (by rw [e1]; exact s4) [.tup [.str "second half", th, .lst r2]]
  have p2 := p.2
  rw [wl_eq e1] at p2
  refine setS_run (meth_run (n := n) rfl (n.l_none (by decide +kernel)) ⟨n, _, _, rfl, ⟨e, rfl, o, z, by omega, by omega, rfl, rfl⟩, (by show 4 < 7; decide), ?_⟩)
  refine seq_run (fapp_run (n := (n.expr e).2) (d := .tup [.str "second half", th, .lst r2]) (by rw [e1]; exact hx) rfl ⟨Nat.le_of_ble_eq_true rfl, rfl, rfl⟩ (by omega) ?_)
  exact ⟨rfl, NS.l_none _ (by decide +kernel), _, _, _, _, rfl, rfl, ⟨r1, rfl, p.1, by rw [p2]; simp; omega, rfl, rfl⟩, Nat.le_of_ble_eq_true rfl, q⟩
end
end Kx
/-! part K41j -/
namespace Kx
open PySem PySem.Spec PyProof.Rows L2 My DL LamX NdefX
theorem fdTAt {fs : OS} {f : Str} {ps : Dc} {k : Dc → Prop} (l : fs.lookup f = some (.own (.dt ps))) (q : k ps) : fdT fs f k := by
  unfold fdT fdO
  rw [l]
  exact q
section
variable {P : Program} {w : World} {K : PySem.W.Frag} {mg : Str → Option Value} {base : Heap} (T : Tx K mg) (SD : Ts K w mg) {B : Ob} (N : NB T B) (Tb : List (Addr × Str)) (TN : TbN K mg base T)
include SD N in
set_option maxHeartbeats 4000000 in
theorem ok_content (hT : HasTab (AmT Tb) TN.P qlamN) : FnOk P w K mg base CX0 7 T.f_Numbering_content T.d_Numbering_content ["self", "thing", "row"] (spD K (AmOT K B Tb) 3 (wfR B.a RCont)) := by
  have M_expression := ok_expression (P := P) (w := w) (base := base) T SD N Tb TN hT
  have M_block := ok_block (P := P) (w := w) (base := base) T N Tb
  have M_declaration := ok_declaration (P := P) (w := w) (base := base) T N Tb
  have M_use := ok_use (P := P) (w := w) (base := base) T N Tb
  have M_definition := ok_definition (P := P) (w := w) (base := base) T N Tb
  have M_first_half := ok_first_half (P := P) (w := w) (base := base) T SD N Tb TN hT
  refine T.F_Numbering_content.ok sc_Numbering_content (spD_len rfl) (fun cdv A outer s H vs Q E hr h => ?_)
  refine d_body (m := 3) h rfl (s_cons (s_set (i := 3) sc_Numbering_content.nd rfl (Or.inl rfl) (d_ix ix_seq o_ix (d_var (pv 2)) (d_int pe_int) (fun _ _ => rfl)))
    (s_cons (s_if (t_cmp op_eq o_eq (d_var (pv 3)) (d_str pe_str) rfl) (s_one (s_ret (d_tup (a_cons (d_var (pv 3)) (a_cons (d_meth (LOT K B Tb) (Lens.id (AmOT K B Tb)) (pv 0) N.c N.m_declaration.mt M_declaration (hr.mono (by decide)) T.b_Numbering_declaration (a_cons (d_ix ix_seq o_ix (d_var (pv 2)) (d_int pe_int) (fun _ _ => rfl)) a_nil) rfl (la_cons la_nil)) (a_cons (d_meth (LOT K B Tb) (Lens.id (AmOT K B Tb)) (pv 0) N.c N.m_expression.mt M_expression (hr.mono (by decide)) T.b_Numbering_expression (a_cons (d_ix ix_seq o_ix (d_var (pv 2)) (d_int pe_int) (fun _ _ => rfl)) a_nil) rfl (la_cons la_nil)) a_nil)))))) s_nil)
    (s_cons (s_if (t_cmp op_eq o_eq (d_var (pv 3)) (d_str pe_str) rfl) (s_one (s_ret (d_tup (a_cons (d_var (pv 3)) (a_cons (d_meth (LOT K B Tb) (Lens.id (AmOT K B Tb)) (pv 0) N.c N.m_use.mt M_use (hr.mono (by decide)) T.b_Numbering_use (a_cons (d_ix ix_seq o_ix (d_var (pv 2)) (d_int pe_int) (fun _ _ => rfl)) a_nil) rfl (la_cons la_nil)) (a_cons (d_meth (LOT K B Tb) (Lens.id (AmOT K B Tb)) (pv 0) N.c N.m_expression.mt M_expression (hr.mono (by decide)) T.b_Numbering_expression (a_cons (d_ix ix_seq o_ix (d_var (pv 2)) (d_int pe_int) (fun _ _ => rfl)) a_nil) rfl (la_cons la_nil)) a_nil)))))) s_nil)
    (s_cons (s_if (t_cmp op_eq o_eq (d_var (pv 3)) (d_str pe_str) rfl) (s_one (s_ret (d_tup (a_cons (d_var (pv 3)) (a_cons (d_meth (LOT K B Tb) (Lens.id (AmOT K B Tb)) (pv 0) N.c N.m_use.mt M_use (hr.mono (by decide)) T.b_Numbering_use (a_cons (d_ix ix_seq o_ix (d_var (pv 2)) (d_int pe_int) (fun _ _ => rfl)) a_nil) rfl (la_cons la_nil)) a_nil))))) s_nil)
    (s_cons (s_if (t_cmp op_eq o_eq (d_var (pv 3)) (d_str pe_str) rfl) (s_one (s_ret (d_tup (a_cons (d_var (pv 3)) (a_cons (d_meth (LOT K B Tb) (Lens.id (AmOT K B Tb)) (pv 0) N.c N.m_expression.mt M_expression (hr.mono (by decide)) T.b_Numbering_expression (a_cons (d_ix ix_seq o_ix (d_var (pv 2)) (d_int pe_int) (fun _ _ => rfl)) a_nil) rfl (la_cons la_nil)) a_nil))))) s_nil)
    (s_cons (s_if (t_cmp op_eq o_eq (d_var (pv 3)) (d_str pe_str) rfl) (s_cons (s_set (i := 4) sc_Numbering_content.nd rfl (Or.inl rfl) (d_meth (LOT K B Tb) (Lens.id (AmOT K B Tb)) (pv 0) N.c N.m_use.mt M_use (hr.mono (by decide)) T.b_Numbering_use (a_cons (d_ix ix_seq o_ix (d_var (pv 2)) (d_int pe_int) (fun _ _ => rfl)) a_nil) rfl (la_cons la_nil)))
    (s_one (s_ret (d_tup (a_cons (d_var (pv 3)) (a_cons (d_var (pv 4)) (a_cons (d_callTy call_tuple_of o_tupOf (by rfl) T.z_tuple (by decide +kernel) (a_cons (d_lc (own := [("argument", 5)]) rfl sc_Numbering_content.nd (i_tup (d_ix ix_seq o_ix (d_var (pv 2)) (d_int pe_int) (fun _ _ => rfl))) (blkOk_by (N := N_Numbering_content) (sc := defScope s_Numbering_content) (by decide +kernel)) (fun _ _ _ _ _ => pg_name (i := 5) sc_Numbering_content.nd rfl (Or.inl rfl)) g_name (gw_name (by decide)) (fun _ _ _ _ _ => ts_nil) (fun _ _ _ _ _ => (d_meth (LOT K B Tb) (Lens.id (AmOT K B Tb)) (pv 0) N.c N.m_expression.mt M_expression (hr.mono (by decide)) T.b_Numbering_expression (a_cons (d_var (pv 5)) a_nil) rfl (la_cons la_nil)))) a_nil)) a_nil))))))) s_nil)
    (s_cons (s_if (t_cmp op_eq o_eq (d_var (pv 3)) (d_str pe_str) rfl) (s_one (s_ret (d_meth (LOT K B Tb) (Lens.id (AmOT K B Tb)) (pv 0) N.c N.m_definition.mt M_definition (hr.mono (by decide)) T.b_Numbering_definition (a_cons (d_var (pv 2)) a_nil) rfl (la_cons la_nil)))) s_nil)
    (s_cons (s_if (t_cmp op_eq o_eq (d_var (pv 3)) (d_str pe_str) rfl) (s_one (s_ret (d_meth (LOT K B Tb) (Lens.id (AmOT K B Tb)) (pv 0) N.c N.m_first_half.mt M_first_half (hr.mono (by decide)) T.b_Numbering_first_half (a_cons (d_var (pv 1)) (a_cons (d_var (pv 2)) a_nil)) rfl (la_cons (la_cons la_nil))))) s_nil)
    (s_cons (s_if (t_cmp op_eq o_eq (d_var (pv 3)) (d_str pe_str) rfl) (s_one (s_ret (d_tup (a_cons (d_var (pv 3)) (a_cons (d_meth (LOT K B Tb) (Lens.id (AmOT K B Tb)) (pv 0) N.c N.m_expression.mt M_expression (hr.mono (by decide)) T.b_Numbering_expression (a_cons (d_ix ix_seq o_ix (d_var (pv 2)) (d_int pe_int) (fun _ _ => rfl)) a_nil) rfl (la_cons la_nil)) (a_cons (d_meth (LOT K B Tb) (Lens.id (AmOT K B Tb)) (pv 0) N.c N.m_block.mt M_block (hr.mono (by decide)) T.b_Numbering_block (a_cons (d_ix ix_seq o_ix (d_var (pv 2)) (d_int pe_int) (fun _ _ => rfl)) a_nil) rfl (la_cons la_nil)) a_nil)))))) s_nil)
    (s_one (s_ret (d_tup (a_cons (d_var (pv 3)) (a_cons (d_meth (LOT K B Tb) (Lens.id (AmOT K B Tb)) (pv 0) N.c N.m_block.mt M_block (hr.mono (by decide)) T.b_Numbering_block (a_cons (d_ix ix_seq o_ix (d_var (pv 2)) (d_int pe_int) (fun _ _ => rfl)) a_nil) rfl (la_cons la_nil)) a_nil)))))))))))))) (fun ds s k hl hw => ?_)
  obtain ⟨n, es, r, n', rfl, rfl, ⟨th, row, rfl, ⟨ok1, ok2, ok3, ok4⟩, ⟨s1, s2, s3, s4, s5⟩, rfl, rfl⟩, q⟩ := hw
  cases row with
  | let_ x e =>
    have ht := ok1 e (List.mem_singleton.mpr rfl)
    have g := grw_decl n x
    have := g.u
    have := g.t
    refine setS_run ⟨by show 3 < 6; decide, ?_⟩
    refine (kvS_yes rfl rfl ?_)
    exact ⟨rfl, NS.l_none _ (by decide +kernel), n, _, _, _, rfl, rfl, ⟨x, rfl, by omega, rfl, rfl⟩, rfl, NS.l_none _ (by decide +kernel), n.decl x, _, _, _, rfl, rfl, ⟨e, rfl, ht.1, ht.2, by omega, by omega, rfl, rfl⟩, Nat.le_of_ble_eq_true rfl, q⟩
  | set_ x e =>
    have ht := ok1 e (List.mem_singleton.mpr rfl)
    have g := grw_use n x
    have := g.u
    have := g.t
    refine setS_run ⟨by show 3 < 6; decide, ?_⟩
    refine (kvS_no rfl (by decide +kernel) (kvS_yes rfl rfl ?_))
    exact ⟨rfl, NS.l_none _ (by decide +kernel), n, _, _, _, rfl, rfl, ⟨x, rfl, by omega, rfl, rfl⟩, rfl, NS.l_none _ (by decide +kernel), n.use x, _, _, _, rfl, rfl, ⟨e, rfl, ht.1, ht.2, by omega, by omega, rfl, rfl⟩, Nat.le_of_ble_eq_true rfl, q⟩
  | read_ x =>
    refine setS_run ⟨by show 3 < 6; decide, ?_⟩
    refine (kvS_no rfl (by decide +kernel) (kvS_no rfl (by decide +kernel) (kvS_yes rfl rfl ?_)))
    exact ⟨rfl, NS.l_none _ (by decide +kernel), n, _, _, _, rfl, rfl, ⟨x, rfl, by omega, rfl, rfl⟩, Nat.le_of_ble_eq_true rfl, q⟩
  | out_ e =>
    have ht := ok1 e (List.mem_singleton.mpr rfl)
    refine setS_run ⟨by show 3 < 6; decide, ?_⟩
    refine (kvS_no rfl (by decide +kernel) (kvS_no rfl (by decide +kernel) (kvS_no rfl (by decide +kernel) (kvS_yes rfl rfl ?_))))
    exact ⟨rfl, NS.l_none _ (by decide +kernel), n, _, _, _, rfl, rfl, ⟨e, rfl, ht.1, ht.2, by omega, by omega, rfl, rfl⟩, Nat.le_of_ble_eq_true rfl, q⟩
  | do_ x es =>
    have g := grw_use n x
    have := g.u
    have := g.t
    have l100 : es.length ≤ 100 := ok2
    refine setS_run ⟨by show 3 < 6; decide, ?_⟩
    refine (kvS_no rfl (by decide +kernel) (kvS_no rfl (by decide +kernel) (kvS_no rfl (by decide +kernel) (kvS_no rfl (by decide +kernel) (kvS_yes rfl rfl ?_)))))
    refine setS_run (meth_run (n := n) rfl (NS.l_none _ (by decide +kernel)) ⟨n, _, _, rfl, ⟨_, rfl, by omega, rfl, rfl⟩, (by show 4 < 6; decide), ?_⟩)
    refine lc_meth (n := n.use x) rfl (by show 5 < 6; decide) (by decide) (by decide +kernel) [] (map_expr es _ ok1 (by omega) (by omega)) (by rw [List.length_map]; show 0 + es.length ≤ 1000000; omega) ?_
    exact ⟨by rw [List.nil_append, exprL_len]; omega, Nat.le_of_ble_eq_true rfl, q⟩
  | def_ x ls rows =>
    refine setS_run ⟨by show 3 < 6; decide, ?_⟩
    refine (kvS_no rfl (by decide +kernel) (kvS_no rfl (by decide +kernel) (kvS_no rfl (by decide +kernel) (kvS_no rfl (by decide +kernel) (kvS_no rfl (by decide +kernel) (kvS_yes rfl rfl ?_))))))
    exact ⟨rfl, NS.l_none _ (by decide +kernel), n, _, _, _, rfl, rfl, ⟨x, ls, rows, rfl, ok4, ok3, ⟨s1, s2, s3, s4, s5⟩, rfl, rfl⟩, q⟩
  | if_ e r1 r2 =>
    have ht := ok1 e (List.mem_singleton.mpr rfl)
    refine setS_run ⟨by show 3 < 6; decide, ?_⟩
    refine (kvS_no rfl (by decide +kernel) (kvS_no rfl (by decide +kernel) (kvS_no rfl (by decide +kernel) (kvS_no rfl (by decide +kernel) (kvS_no rfl (by decide +kernel) (kvS_no rfl (by decide +kernel) (kvS_yes rfl rfl ?_)))))))
    exact ⟨rfl, NS.l_none _ (by decide +kernel), n, _, _, _, rfl, rfl, ⟨th, e, r1, r2, rfl, ht.1, ht.2, ok3, ⟨s1, s2, s3, s4, s5⟩, rfl, rfl⟩, q⟩
  | rep_ e rows =>
    have ht := ok1 e (List.mem_singleton.mpr rfl)
    have l3 : rows.length ≤ 100000 := ok3
    have g := grw_expr e n
    refine setS_run ⟨by show 3 < 6; decide, ?_⟩
    refine (kvS_no rfl (by decide +kernel) (kvS_no rfl (by decide +kernel) (kvS_no rfl (by decide +kernel) (kvS_no rfl (by decide +kernel) (kvS_no rfl (by decide +kernel) (kvS_no rfl (by decide +kernel) (kvS_no rfl (by decide +kernel) (kvS_yes rfl rfl ?_))))))))
    exact ⟨rfl, NS.l_none _ (by decide +kernel), n, _, _, _, rfl, rfl, ⟨e, rfl, ht.1, ht.2, by omega, by omega, rfl, rfl⟩, rfl, NS.l_none _ (by decide +kernel), (n.expr e).2, _, _, _, rfl, rfl, ⟨rows, rfl, by rw [g.x]; exact s4, by rw [wl_eq g.x]; omega, rfl, rfl⟩, Nat.le_of_ble_eq_true rfl, q⟩
  | blk_ rows =>
    have l3 : rows.length ≤ 100000 := ok3
    refine setS_run ⟨by show 3 < 6; decide, ?_⟩
    refine (kvS_no rfl (by decide +kernel) (kvS_no rfl (by decide +kernel) (kvS_no rfl (by decide +kernel) (kvS_no rfl (by decide +kernel) (kvS_no rfl (by decide +kernel) (kvS_no rfl (by decide +kernel) (kvS_no rfl (by decide +kernel) (kvS_no rfl (by decide +kernel) (?_)))))))))
    exact ⟨rfl, NS.l_none _ (by decide +kernel), n, _, _, _, rfl, rfl, ⟨rows, rfl, s4, by omega, rfl, rfl⟩, Nat.le_of_ble_eq_true rfl, q⟩
/-- a row numbered -/
def NS.row (n : NS) (b : Dt) (i : Int) (row : Rw) : NS := { (n.fresh.content (idt n.id) row).2 with p := putT (n.fresh.content (idt n.id) row).2.p (idk n.id) (.tup [b, .tup [.int i, .int 1], (n.fresh.content (idt n.id) row).1]) }
def RRow : NS → List Dt → Rs → NS → Prop := fun n es r n' => ∃ b i row, es = [b, .int i, row.dt] ∧ Rw.ok row ∧ n.small ∧ (n.fresh.content (idt n.id) row).2.p.length < 1000000 ∧ r = .nx ∧ n' = n.row b i row
include SD N in
theorem ok_number_row (hT : HasTab (AmT Tb) TN.P qlamN) : FnOk P w K mg base CX0 8 T.f_Numbering_number_row T.d_Numbering_number_row ["self", "block", "index", "row"] (spD K (AmOT K B Tb) 4 (wfR B.a RRow)) := by
  have M_content := ok_content (P := P) (w := w) (base := base) T SD N Tb TN hT
  have M_fresh := ok_fresh (P := P) (w := w) (base := base) T N Tb
  refine T.F_Numbering_number_row.ok sc_Numbering_number_row (spD_len rfl) (fun cdv A outer s H vs Q E hr h => ?_)
  refine d_body (m := 1) h rfl (s_cons (s_set (i := 4) sc_Numbering_number_row.nd rfl (Or.inl rfl) (d_meth0 (LOT K B Tb) (Lens.id (AmOT K B Tb)) (pv 0) N.c N.m_fresh.mt M_fresh (hr.mono (by decide)) T.b_Numbering_fresh))
    (s_one (s_fput (LOT K B Tb) (Nat.lt_of_le_of_lt (Nat.add_le_add_left (by decide : 1 ≤ 64) _) hr.units) (pv 0) N.c N.placed (d_var (pv 4)) (d_tup (a_cons (d_var (pv 1)) (a_cons (d_tup (a_cons (d_var (pv 2)) (a_cons (d_int pe_int) a_nil))) (a_cons (d_meth (LOT K B Tb) (Lens.id (AmOT K B Tb)) (pv 0) N.c N.m_content.mt M_content (hr.mono (by decide)) T.b_Numbering_content (a_cons (d_var (pv 4)) (a_cons (d_var (pv 3)) a_nil)) rfl (la_cons (la_cons la_nil))) a_nil))))))) (fun ds s k hl hw => ?_)
  obtain ⟨n, es, r, n', rfl, rfl, ⟨b, i, row, rfl, ok, sm, few, rfl, rfl⟩, q⟩ := hw
  refine setS_run (meth0_run rfl (NS.l_none _ (by decide +kernel)) ⟨rfl, rfl, rfl⟩ ⟨by show 4 < 5; decide, ?_⟩)
  refine fput_run (n := n.fresh) (n' := (n.fresh.content (idt n.id) row).2) (v := .tup [b, .tup [.int i, .int 1], (n.fresh.content (idt n.id) row).1]) (c := NS.p) (up := fun n x => { n with p := x }) (fun n => n.l_placed) (fun n x => n.p_placed x) rfl ?_ ⟨rfl, rfl⟩ (keyD_id n.id) few ?_
  · exact ⟨Nat.le_of_ble_eq_true rfl, rfl, NS.l_none _ (by decide +kernel), n.fresh, _, _, _, rfl, rfl, ⟨_, row, rfl, ok, sm, rfl, rfl⟩, Nat.le_of_ble_eq_true rfl, rfl, rfl⟩
  · exact q
/-- the second half of an if numbered -/
def NS.half (n : NS) (k : Id') (b ps wd e f : Dt) (rows : List Dt) : NS := ({ n.fresh with p := putT n.p (idk k) (.tup [b, ps, .tup [wd, e, f, idt n.id]]) } : NS).push (entries (idt n.id) rows)
def RHalf : NS → List Dt → Rs → NS → Prop := fun n es r n' => ∃ k b ps wd e f rows, es = [idt k, .lst rows] ∧ valD n.p (idk k) = some (.tup [b, ps, .tup [wd, e, f]]) ∧ n.p.length < 1000000 ∧ n.x.isSome = true ∧ n.wl + rows.length ≤ 900000 ∧ r = .nx ∧ n' = n.half k b ps wd e f rows
include N in
theorem ok_number_second_half : FnOk P w K mg base CX0 2 T.f_Numbering_number_second_half T.d_Numbering_number_second_half ["self", "row", "rows"] (spD K (AmOT K B Tb) 3 (wfR B.a RHalf)) := by
  have M_enter := ok_enter (P := P) (w := w) (base := base) T N Tb
  have M_fresh := ok_fresh (P := P) (w := w) (base := base) T N Tb
  refine T.F_Numbering_number_second_half.ok sc_Numbering_number_second_half (spD_len rfl) (fun cdv A outer s H vs Q E hr h => ?_)
  refine d_body (m := 6) h rfl (s_cons (s_asg (d_fget (LOT K B Tb) (Nat.lt_of_le_of_lt (Nat.add_le_add_left (by decide : 1 ≤ 64) _) hr.units) (pv 0) N.c N.placed (d_var (pv 1))) (pg_tup rfl (pgs_cons (pg_name (i := 3) sc_Numbering_number_second_half.nd rfl (Or.inl rfl)) (pgs_cons (pg_name (i := 4) sc_Numbering_number_second_half.nd rfl (Or.inl rfl)) (pgs_cons (pg_tup rfl (pgs_cons (pg_name (i := 5) sc_Numbering_number_second_half.nd rfl (Or.inl rfl)) (pgs_cons (pg_name (i := 6) sc_Numbering_number_second_half.nd rfl (Or.inl rfl)) (pgs_cons (pg_name (i := 7) sc_Numbering_number_second_half.nd rfl (Or.inl rfl)) pgs_nil)))) pgs_nil)))) (g_tup (g_cons g_name (g_cons g_name (g_cons (g_tup (g_cons g_name (g_cons g_name (g_cons g_name g_nil))) (n_cons (n_cons (n_cons n_nil)))) g_nil))) (n_cons (n_cons (n_cons n_nil)))))
    (s_cons (s_set (i := 8) sc_Numbering_number_second_half.nd rfl (Or.inl rfl) (d_meth0 (LOT K B Tb) (Lens.id (AmOT K B Tb)) (pv 0) N.c N.m_fresh.mt M_fresh (hr.mono (by decide)) T.b_Numbering_fresh))
    (s_cons (s_fput (LOT K B Tb) (Nat.lt_of_le_of_lt (Nat.add_le_add_left (by decide : 1 ≤ 64) _) hr.units) (pv 0) N.c N.placed (d_var (pv 1)) (d_tup (a_cons (d_var (pv 3)) (a_cons (d_var (pv 4)) (a_cons (d_tup (a_cons (d_var (pv 5)) (a_cons (d_var (pv 6)) (a_cons (d_var (pv 7)) (a_cons (d_var (pv 8)) a_nil))))) a_nil)))))
    (s_one (s_exp (d_meth (LOT K B Tb) (Lens.id (AmOT K B Tb)) (pv 0) N.c N.m_enter.mt M_enter (hr.mono (by decide)) T.b_Numbering_enter (a_cons (d_var (pv 8)) (a_cons (d_var (pv 2)) a_nil)) rfl (la_cons (la_cons la_nil)))))))) (fun ds s k hl hw => ?_)
  obtain ⟨n, es, r, n', rfl, rfl, ⟨k0, b, ps, wd, e, f, rows, rfl, hv, few, hx, hl, rfl, rfl⟩, q⟩ := hw
  refine asg_run ?_
  refine ⟨rfl, fdTAt n.l_placed ?_⟩
  refine wVar_run (i := 1) (d := idt k0) rfl ?_
  refine fdTAt n.l_placed ?_
  show optKs (keyD (idt k0)) _
  rw [keyD_id]
  show optK (valD n.p (idk k0)) _
  rw [hv]
  refine ⟨_, rfl, ?_⟩
  refine setS_run (meth0_run rfl (NS.l_none _ (by decide +kernel)) ⟨rfl, rfl, rfl⟩ ⟨by show 8 < 9; decide, ?_⟩)
  refine seq_run (fput_run (n := n.fresh) (n' := n.fresh) (v := .tup [b, ps, .tup [wd, e, f, idt n.id]]) (c := NS.p) (up := fun n x => { n with p := x }) (fun n => n.l_placed) (fun n x => n.p_placed x) rfl ⟨Nat.le_of_ble_eq_true rfl, Nat.le_of_ble_eq_true rfl, rfl, rfl⟩ ⟨rfl, rfl⟩ (keyD_id k0) few ?_)
  exact ⟨rfl, NS.l_none _ (by decide +kernel), _, _, _, _, rfl, rfl, ⟨_, rows, rfl, hx, hl, rfl, rfl⟩, q⟩
end
end Kx
/-! part DL30 -/
namespace DL
open PySem PySem.Spec PyProof.Rows L2 My LamX NdefX
/-! ### an object being made -/
theorem FdX.sub {K : PySem.W.Frag} {P : Addr → Prop} {H : Hp} {B B' : Ob} (hn : ∀ f ∈ B.names, f ∈ B'.names ∧ B'.ow f = B.ow f) : ∀ {vs : List (Str × V)} {fs : OS}, FdX K P H B vs fs → FdX K P H B' vs fs
  | _, _, .nil => .nil
  | _, _, .dat x r => .dat x (FdX.sub hn r)
  | _, _, .own (f := f) n e x r => by
    rw [← (hn f n).2] at e ⊢
    exact .own (hn f n).1 e x (FdX.sub hn r)
theorem FdX.snocO {K : PySem.W.Frag} {P : Addr → Prop} {H : Hp} {B : Ob} {f : Str} {o : HO} {c : Cn} (n : f ∈ B.names) (e : H (B.ow f) = some o) (x : CnX K (hidP P H) o c) : ∀ {vs : List (Str × V)} {fs : OS}, FdX K P H B vs fs → fs.lookup f = Option.none → FdX K P H B (putF f (.ref (B.ow f)) vs) (putFd f (.own c) fs)
  | _, _, .nil, _ => .own n e x .nil
  | _, _, .dat (f := g) y r, l => by
    rw [List.lookup_cons] at l
    split at l
    · cases l
    · rename_i q
      have ng : ¬ g = f := fun z => by rw [z, beq_self_eq_true] at q; cases q
      unfold putF putFd
      rw [if_neg ng, if_neg ng]
      exact .dat y (FdX.snocO n e x r l)
  | _, _, .own (f := g) m e2 y r, l => by
    rw [List.lookup_cons] at l
    split at l
    · cases l
    · rename_i q
      have ng : ¬ g = f := fun z => by rw [z, beq_self_eq_true] at q; cases q
      unfold putF putFd
      rw [if_neg ng, if_neg ng]
      exact .own m e2 y (FdX.snocO n e x r l)
def Ob.add (B : Ob) (f : Str) (p : Addr) (hp : p ≠ B.a ∧ p ≠ B.dx) (hf : ∀ n ∈ B.names, B.ow n ≠ p) (nf : f ∉ B.names) : Ob where
  C := B.C
  a := B.a
  dx := B.dx
  names := f :: B.names
  ow n := if n = f then p else B.ow n
  inj n hn m hm e := by
    have key : ∀ k ∈ f :: B.names, k = f ∨ (k ≠ f ∧ k ∈ B.names) := fun k hk => by
      rcases List.mem_cons.mp hk with z | z
      · exact .inl z
      · exact .inr ⟨fun y => nf (y ▸ z), z⟩
    rcases key n hn with rfl | ⟨n1, n2⟩
    · rcases key m hm with rfl | ⟨m1, m2⟩
      · rfl
      · rw [if_pos rfl, if_neg m1] at e
        exact absurd e.symm (hf m m2)
    · rcases key m hm with rfl | ⟨m1, m2⟩
      · rw [if_neg n1, if_pos rfl] at e
        exact absurd e (hf n n2)
      · rw [if_neg n1, if_neg m1] at e
        exact B.inj n n2 m m2 e
  apa n hn := by
    by_cases z : n = f
    · rw [if_pos z]
      exact hp
    · rw [if_neg z]
      exact B.apa n ((List.mem_cons.mp hn).resolve_left z)
  adx := B.adx
theorem Ob.add_ow {B : Ob} {f : Str} {p : Addr} {hp hf nf} {n : Str} (h : n ∈ B.names) : (B.add f p hp hf nf).ow n = B.ow n := if_neg (fun z => nf (by rw [← z]; exact h))
theorem Ob.add_owf {B : Ob} {f : Str} {p : Addr} {hp hf nf} : (B.add f p hp hf nf).ow f = p := if_pos rfl
theorem Ob.add_foot {B : Ob} {f : Str} {p : Addr} {hp hf nf} {b : Addr} : (B.add f p hp hf nf).foot b ↔ B.foot b ∨ b = p := by
  constructor
  · rintro (h | h | ⟨n, hn, h⟩)
    · exact .inl (.inl h)
    · exact .inl (.inr (.inl h))
    · rcases List.mem_cons.mp hn with z | z
      · rw [z, Ob.add_owf] at h
        exact .inr h.symm
      · rw [Ob.add_ow z] at h
        exact .inl (.inr (.inr ⟨n, z, h⟩))
  · rintro ((h | h | ⟨n, hn, h⟩) | h)
    · exact .inl h
    · exact .inr (.inl h)
    · exact .inr (.inr ⟨n, List.mem_cons_of_mem _ hn, by rw [Ob.add_ow hn]; exact h⟩)
    · exact .inr (.inr ⟨f, List.mem_cons_self, by rw [Ob.add_owf]; exact h.symm⟩)
def hidB (F : Addr → Prop) (B : Ob) : Addr → Prop := fun b => F b ∨ B.foot b
/-- being made: B with the fields fs, beside data slots; H0: the heap where the making began -/
structure Bg (K : PySem.W.Frag) (Tb : List (Addr × Str)) (F : Addr → Prop) (H0 : Hp) (B : Ob) (fs : OS) (σ : L2.St) (ρ : En) (H : Hp) : Prop where
  ob : ObAt K B fs (hidB F B) H
  tb : (AmT Tb).at_ () (hidB F B) H
  new : ∀ a, B.foot a → H0 a = none
  fex : ∀ a, F a → ∃ o, H0 a = some o ∧ Hd o
  ev : ∀ b o, H0 b = some o → ¬ (AmT Tb).tab b → H b = some o
  tb0 : ∃ P, (AmT Tb).at_ () P H0
  dat : ∀ (i : Nat) (d : Dt), ρ[i]? = some (Sl.dat d) → ∃ v, σ[i]? = some (some v) ∧ DX K (hidP (hidB F B) H) v d
  noo : ∀ (i : Nat) (c : Cn), ρ[i]? ≠ some (Sl.own c)
  len : ρ.length = σ.length
section
variable {K : PySem.W.Frag} {Tb : List (Addr × Str)} {F : Addr → Prop} {H0 : Hp} {B : Ob} {fs : OS} {σ : L2.St} {ρ : En} {H : Hp}
theorem Bg.fnt (g : Bg K Tb F H0 B fs σ ρ H) {a : Addr} (f : F a) : ¬ (AmT Tb).tab a := fun t => by
  obtain ⟨P, h⟩ := g.tb0
  obtain ⟨ps, e1⟩ := (AmT Tb).hasT () P H0 a h t
  obtain ⟨o, e2, d⟩ := g.fex a f
  rw [e1] at e2
  cases e2
  exact d
theorem Bg.exH (g : Bg K Tb F H0 B fs σ ρ H) {a : Addr} (h : hidB F B a) : ∃ o, H a = some o ∧ Hd o := by
  rcases h with h | h
  · obtain ⟨o, e, d⟩ := g.fex a h
    exact ⟨o, g.ev a o e (g.fnt h), d⟩
  · exact (AmO K B).has _ _ _ _ g.ob h
theorem Bg.fresh (g : Bg K Tb F H0 B fs σ ρ H) {p : Addr} (np : H p = none) : ¬ hidB F B p := fun h => by
  obtain ⟨o, e, _⟩ := g.exH h
  rw [np] at e
  cases e
theorem Bg.new0 (g : Bg K Tb F H0 B fs σ ρ H) {p : Addr} (np : H p = none) : H0 p = none := by
  cases e : H0 p with
  | none => rfl
  | some o =>
    by_cases t : (AmT Tb).tab p
    · obtain ⟨ps, e1⟩ := (AmT Tb).hasT () _ H p g.tb t
      rw [np] at e1
      cases e1
    · rw [g.ev p o e t] at np
      cases np
theorem Bg.hidn (g : Bg K Tb F H0 B fs σ ρ H) (O : Nat → Addr) (b : Addr) : DL.hidn (hidB F B) O ρ b ↔ hidB F B b := ⟨fun h => h.elim id fun ⟨i, c, e, _⟩ => absurd e (g.noo i c), .inl⟩
theorem ObAt.iff {P P' : Addr → Prop} (h : ObAt K B fs P H) (e : ∀ b, P' b ↔ P b) : ObAt K B fs P' H := (AmO K B).move fs P P' H H h (fun b o z n => ⟨fun y => n ((e b).mp y), z⟩) fun _ _ z _ => z
theorem AmT.iff {Tb : List (Addr × Str)} {P P' : Addr → Prop} {H : Hp} (h : (AmT Tb).at_ () P H) (e : ∀ b, P' b ↔ P b) : (AmT Tb).at_ () P' H := (AmT Tb).move () P P' H H h (fun b o z n => ⟨fun y => n ((e b).mp y), z⟩) fun _ _ z _ => z
/-- .. as the state of what follows -/
theorem Bg.stt (g : Bg K Tb F H0 B fs σ ρ H) : Stt K (AmOT K B Tb) (hidB F B) H (fun _ => 0) σ H (ρ, fs) := by
  have e := fun b => (g.hidn (fun _ => 0) b)
  refine ⟨⟨g.ob.iff e, AmT.iff g.tb e⟩, ⟨fs, _, g.ob, g.tb⟩, fun a f => .inr f, fun a h => g.exH h, fun b o z _ _ => z, fun i d h => ?_, fun i c h => absurd h (g.noo i c), fun i j c d h => absurd h (g.noo i c), g.len⟩
  obtain ⟨v, h1, h2⟩ := g.dat i d h
  exact ⟨v, h1, h2.same (hidP_same fun b o z _ n => ⟨fun y => n ((e b).mp y), z⟩)⟩
/-- .. and back -/
theorem Bg.back (g : Bg K Tb F H0 B fs σ ρ H) {fs' : OS} {σ' : L2.St} {H' : Hp} {O : Nat → Addr} {ρ' : En} (st : Stt K (AmOT K B Tb) (hidB F B) H O σ' H' (ρ', fs')) (no : ∀ (i : Nat) (c : Cn), ρ'[i]? ≠ some (Sl.own c)) : Bg K Tb F H0 B fs' σ' ρ' H' := by
  have e : ∀ b, DL.hidn (hidB F B) O ρ' b ↔ hidB F B b := fun b => ⟨fun h => h.elim id fun ⟨i, c, e, _⟩ => absurd e (no i c), .inl⟩
  refine ⟨st.am.1.iff fun b => (e b).symm, AmT.iff st.am.2 fun b => (e b).symm, g.new, g.fex, fun b o z t => ?_, g.tb0, fun i d h => ?_, no, st.len⟩
  · exact st.ev b o (g.ev b o z t) (fun f => by rw [g.new b f] at z; cases z) t
  · obtain ⟨v, h1, h2⟩ := st.dat i d h
    exact ⟨v, h1, h2.same (hidP_same fun b o z _ n => ⟨fun y => n ((e b).mpr y), z⟩)⟩
/-- a data field is set -/
theorem Bg.setV (g : Bg K Tb F H0 B fs σ ρ H) {D : Ends} {f : Str} {i : Nat} {v : V} {d : Dt} (c : Cls K B.C) (n : NoAttr K B.C f) (hs : ρ[i]? = some (.dat (.ptr B.a))) (h2 : DX K (hidP (hidB F B) H) v d) (few : fs.length < 100)
    (q : ∀ H', Bg K Tb F H0 B (putFd f (.dat d) fs) σ ρ H' → D.nx σ H') : tVar i σ H fun x H2 => ∃ a C dx fs, x = V.ref a ∧ H2 a = some (.ins C dx fs) ∧ Cls K C ∧ NoAttr K C f ∧ fs.length < 1000 ∧ D.nx σ (upd H2 a (.ins C dx (putF f v fs))) := by
  obtain ⟨vs, e1, x⟩ := g.ob.ex
  obtain ⟨u, h3, h4⟩ := g.dat i _ hs
  have lv : vs.length < 1000 := by rw [x.len]; omega
  refine ⟨u, h3, B.a, B.C, B.dx, vs, h4.ptrI, e1, c, n, lv, ?_⟩
  have s : Same (hidP (hidB F B) H) (hidP (hidB F B) (upd H B.a (.ins B.C B.dx (putF f v vs)))) := hidP_same fun b o e _ n => ⟨n, by rw [upd_ne (fun z => n (.inr (.inl z)))]; exact e⟩
  refine q _ ⟨g.ob.setD e1 x h2 (fun a h => .inr h) few, ?_, g.new, g.fex, fun b o z t => ?_, g.tb0, fun k e h => ?_, g.noo, g.len⟩
  · exact (AmT Tb).move () _ _ _ _ g.tb (fun b o z n => ⟨n, by rw [upd_ne (fun y => n (.inr (.inl y)))]; exact z⟩) fun _ _ _ z => z.elim
  · rw [upd_ne (fun y => by rw [y, g.new _ (.inl rfl)] at z; cases z)]
    exact g.ev b o z t
  · obtain ⟨v, k1, k2⟩ := g.dat k e h
    exact ⟨v, k1, k2.same s⟩
theorem Bg.setD (g : Bg K Tb F H0 B fs σ ρ H) {D : Ends} {f : Str} {i j : Nat} {d : Dt} (c : Cls K B.C) (n : NoAttr K B.C f) (hs : ρ[i]? = some (.dat (.ptr B.a))) (hj : ρ[j]? = some (.dat d)) (few : fs.length < 100)
    (q : ∀ H', Bg K Tb F H0 B (putFd f (.dat d) fs) σ ρ H' → D.nx σ H') : sFld K (tVar i) (tVar j) f D σ H := by
  obtain ⟨v, h1, h2⟩ := g.dat j d hj
  exact ⟨v, h1, g.setV c n hs h2 few q⟩
theorem lkPut {f g : Str} {x : Fd} {fs : OS} (h : decide (f = g) = false) (q : fs.lookup f = none) : (putFd g x fs).lookup f = none := by
  rw [lookup_putFd, if_neg (of_decide_eq_false h)]
  exact q
/-- a new thing of its own -/
theorem Bg.add (g : Bg K Tb F H0 B fs σ ρ H) {f : Str} {p : Addr} {o : HO} {cn : Cn} {vs : List (Str × V)} (np : H p = none) (nf : f ∉ B.names) (hf : fs.lookup f = none) (few : fs.length < 100) (e1 : H B.a = some (.ins B.C B.dx vs)) (x : FdX K (hidB F B) H B vs fs) (y : CnX K (hidP (hidB F B) H) o cn) :
    ∃ B', B'.C = B.C ∧ B'.a = B.a ∧ B'.dx = B.dx ∧ B'.names = f :: B.names ∧ Bg K Tb F H0 B' (putFd f (.own cn) fs) σ ρ (upd (upd H p o) B.a (.ins B.C B.dx (putF f (.ref p) vs))) := by
  have pf := g.fresh np
  have pa : p ≠ B.a := fun z => pf (.inr (.inl z))
  have pd : p ≠ B.dx := fun z => pf (.inr (.inr (.inl z)))
  have po : ∀ n ∈ B.names, B.ow n ≠ p := fun n hn z => pf (.inr (.inr (.inr ⟨n, hn, z⟩)))
  refine ⟨B.add f p ⟨pa, pd⟩ po nf, rfl, rfl, rfl, rfl, ?_⟩
  have ef : ∀ b, (B.add f p ⟨pa, pd⟩ po nf).foot b ↔ B.foot b ∨ b = p := fun b => Ob.add_foot
  have kp : ∀ b u, H b = some u → b ≠ B.a → upd (upd H p o) B.a (.ins B.C B.dx (putF f (.ref p) vs)) b = some u := fun b u e n => by
    rw [upd_ne n, upd_ne (ne_of_none e np)]
    exact e
  have s : Same (hidP (hidB F B) H) (hidP (hidB F (B.add f p ⟨pa, pd⟩ po nf)) (upd (upd H p o) B.a (.ins B.C B.dx (putF f (.ref p) vs)))) := hidP_same fun b u e _ n => ⟨(fun h => by
    rcases h with h | h
    · exact n (.inl h)
    · rcases (ef b).mp h with h | h
      · exact n (.inr h)
      · rw [h, np] at e
        cases e), kp b u e fun z => n (.inr (.inl z))⟩
  have owp : (B.add f p ⟨pa, pd⟩ po nf).ow f = p := Ob.add_owf
  have at_p : upd (upd H p o) B.a (.ins B.C B.dx (putF f (.ref p) vs)) p = some o := by rw [upd_ne pa, upd_same]
  refine ⟨⟨⟨putF f (.ref p) vs, upd_same, ?_⟩, kp _ _ g.ob.dx (Ne.symm B.adx), fun n hn => ?_, Nat.le_trans (putFd_len f _ fs) few⟩, ?_, fun a h => ?_, g.fex, fun b u z t => ?_, g.tb0, fun k e h => ?_, g.noo, g.len⟩
  · have x2 : FdX K (hidB F (B.add f p ⟨pa, pd⟩ po nf)) (upd (upd H p o) B.a (.ins B.C B.dx (putF f (.ref p) vs))) B vs fs := x.move s fun n u hn e => kp _ _ e (B.apa n hn).1
    have x3 := FdX.sub (B' := B.add f p ⟨pa, pd⟩ po nf) (fun n hn => ⟨List.mem_cons_of_mem _ hn, Ob.add_ow hn⟩) x2
    have z := FdX.snocO (B := B.add f p ⟨pa, pd⟩ po nf) (f := f) List.mem_cons_self (by rw [owp]; exact at_p) (y.same s) x3 hf
    rw [owp] at z
    exact z
  · rcases List.mem_cons.mp hn with rfl | hn
    · exact ⟨o, by rw [owp]; exact at_p, y.hd⟩
    · obtain ⟨u, e, d⟩ := g.ob.nms n hn
      refine ⟨u, ?_, d⟩
      rw [Ob.add_ow hn]
      exact kp _ _ e (B.apa n hn).1
  · refine (AmT Tb).move () _ _ _ _ g.tb (fun b u z n => ⟨fun h => ?_, kp b u z fun y => n (.inr (.inl y))⟩) fun _ _ _ z => z.elim
    rcases h with h | h
    · exact n (.inl h)
    · rcases (ef b).mp h with h | h
      · exact n (.inr h)
      · rw [h, np] at z
        cases z
  · rcases (ef a).mp h with h | h
    · exact g.new a h
    · rw [h]
      exact g.new0 np
  · refine kp b u (g.ev b u z t) fun y => ?_
    rw [y, g.new _ (.inl rfl)] at z
    cases z
  · obtain ⟨v, k1, k2⟩ := g.dat k e h
    exact ⟨v, k1, k2.same s⟩
/-- at the start: the object is empty -/
theorem Bg.start {C x dx : Addr} {N : List Str} {vs : List V} {ds : List Dt} {m : Nat} (h1 : H0 x = none) (h2 : H0 dx = none) (h3 : dx ≠ x) (at_ : (AmT Tb).at_ () F H0) (fex : ∀ a, F a → ∃ o, H0 a = some o ∧ Hd o) (d : DXs K (hidP F H0) vs ds) (hN : N.length = vs.length + 1 + m) :
    Bg K Tb F H0 ⟨C, x, dx, [], fun _ => 0, (fun _ h => nomatch h), (fun _ h => nomatch h), Ne.symm h3⟩ [] (L2.start N (.ref x :: vs)) (ent (.ptr x :: ds) m) (upd (upd H0 dx (.own x)) x (.ins C dx [])) := by
  have ef : ∀ b, hidB F ⟨C, x, dx, [], fun _ => 0, (fun _ h => nomatch h), (fun _ h => nomatch h), Ne.symm h3⟩ b → F b ∨ b = x ∨ b = dx := fun b h => by
    rcases h with h | h | h | ⟨n, hn, _⟩
    · exact .inl h
    · exact .inr (.inl h)
    · exact .inr (.inr h)
    · cases hn
  have kp : ∀ b o, H0 b = some o → upd (upd H0 dx (.own x)) x (.ins C dx []) b = some o := fun b o e => by
    rw [upd_ne (ne_of_none e h1), upd_ne (ne_of_none e h2)]
    exact e
  have kk : Kp F H0 (hidB F ⟨C, x, dx, [], fun _ => 0, (fun _ h => nomatch h), (fun _ h => nomatch h), Ne.symm h3⟩) (upd (upd H0 dx (.own x)) x (.ins C dx [])) := fun b o e n => ⟨(fun h => by
    rcases ef b h with h | rfl | rfl
    · exact n h
    · rw [h1] at e; cases e
    · rw [h2] at e; cases e), kp b o e⟩
  have xs : DXs K (hidP (hidB F ⟨C, x, dx, [], fun _ => 0, (fun _ h => nomatch h), (fun _ h => nomatch h), Ne.symm h3⟩) (upd (upd H0 dx (.own x)) x (.ins C dx []))) (.ref x :: vs) (.ptr x :: ds) := .cons (.sp rfl) (d.same kk.same)
  refine ⟨⟨⟨[], upd_same, .nil⟩, by rw [upd_ne h3, upd_same], (fun _ h => nomatch h), Nat.zero_le _⟩, (AmT Tb).move () _ _ _ _ at_ kk fun _ _ _ z => z.elim, fun a h => ?_, fex, fun b o e _ => kp b o e, ⟨F, at_⟩, fun i e h => ?_, fun i c h => ent_own h, ?_⟩
  · rcases h with h | h | ⟨n, hn, _⟩
    · rw [show a = x from h]; exact h1
    · rw [show a = dx from h]; exact h2
    · cases hn
  · obtain ⟨v, k1, k2⟩ := xs.at_ (ent_dat h)
    exact ⟨v, start_get k1, k2⟩
  · have := d.len
    rw [start_len (by rw [List.length_cons]; omega)]
    unfold ent
    rw [List.length_append, List.length_map, List.length_replicate, List.length_cons]
    omega
theorem Bg.newT (g : Bg K Tb F H0 B fs σ ρ H) {D : Ends} {f : Str} {i : Nat} (c : Cls K B.C) (n : NoAttr K B.C f) (hs : ρ[i]? = some (.dat (.ptr B.a))) (nf : f ∉ B.names) (hf : fs.lookup f = none) (few : fs.length < 100)
    (q : ∀ H' B', B'.C = B.C → B'.a = B.a → B'.dx = B.dx → B'.names = f :: B.names → Bg K Tb F H0 B' (putFd f (.own (.dt [])) fs) σ ρ H' → D.nx σ H') : sFld K (tVar i) tDNewT f D σ H := by
  intro p np
  obtain ⟨vs, e1, x⟩ := g.ob.ex
  obtain ⟨u, h3, h4⟩ := g.dat i _ hs
  have pa : B.a ≠ p := fun z => g.fresh np (.inr (.inl z.symm))
  refine ⟨u, h3, B.a, B.C, B.dx, vs, h4.ptrI, by rw [upd_ne pa]; exact e1, c, n, by rw [x.len]; omega, ?_⟩
  obtain ⟨B', q1, q2, q3, q4, g'⟩ := g.add np nf hf few e1 x (.dt (Nat.zero_le _) .nil)
  exact q _ B' q1 q2 q3 q4 g'
theorem Bg.newL (g : Bg K Tb F H0 B fs σ ρ H) {D : Ends} {f : Str} {i : Nat} (c : Cls K B.C) (n : NoAttr K B.C f) (hs : ρ[i]? = some (.dat (.ptr B.a))) (nf : f ∉ B.names) (hf : fs.lookup f = none) (few : fs.length < 100)
    (q : ∀ H' B', B'.C = B.C → B'.a = B.a → B'.dx = B.dx → B'.names = f :: B.names → Bg K Tb F H0 B' (putFd f (.own (.lst [])) fs) σ ρ H' → D.nx σ H') : sFld K (tVar i) (tLst tNil) f D σ H := by
  refine ⟨Nat.zero_le _, fun p np => ?_⟩
  obtain ⟨vs, e1, x⟩ := g.ob.ex
  obtain ⟨u, h3, h4⟩ := g.dat i _ hs
  have pa : B.a ≠ p := fun z => g.fresh np (.inr (.inl z.symm))
  refine ⟨u, h3, B.a, B.C, B.dx, vs, h4.ptrI, by rw [upd_ne pa]; exact e1, c, n, by rw [x.len]; omega, ?_⟩
  obtain ⟨B', q1, q2, q3, q4, g'⟩ := g.add np nf hf few e1 x (.lst (Nat.zero_le _) .nil)
  exact q _ B' q1 q2 q3 q4 g'
end
/-! ### rules for any object -/
section
variable {X : Cx} {e : Expr} {st : List Stmt} {I : Type} {p : I → Prop}
theorem pe_any {t : I → TE} (h : ∀ i, p i → PE X e (t i)) : PE X e (fun σ H Q => ∃ i, p i ∧ t i σ H Q) := ⟨fun pins s σ H Q J ⟨i, hi, q⟩ => (h i hi).run pins s σ H Q J q⟩
theorem pss_any {t : I → TS} (h : ∀ i, p i → PSs X st (t i)) : PSs X st (fun D σ H => ∃ i, p i ∧ t i D σ H) := ⟨fun pins s σ H D J ⟨i, hi, q⟩ => (h i hi).run pins s σ H D J q⟩
theorem ps_any {s : Stmt} {t : I → TS} (h : ∀ i, p i → PS X s (t i)) : PS X s (fun D σ H => ∃ i, p i ∧ t i D σ H) := ⟨fun pins s σ H D J ⟨i, hi, q⟩ => (h i hi).run pins s σ H D J q⟩
end
/-- a def with defaults: nothing is let out -/
theorem funD_ok {P : Program} {w : World} {K : PySem.W.Frag} {mg : Str → Option Value} {base : Heap} {x qual : Str} {params : Arguments} {body : List Stmt} {scope : Scope} {dvs : List V} {kws : List (Str × V)} {f : Addr} {fd : FuncData} {N ps : List Str} {k : Nat} {sp : Sp} (F : FunD K x qual params body scope dvs kws f fd) (S : FnScope N ps scope) (len : ∀ vs H Q E, sp vs H Q E → vs.length = ps.length)
    (hbody : ∀ (cdv : Value) (A : Around) (outer : List Env) (s : Shared) (H : Hp) (vs : List V) (Q : VK) (E : XK), Room k (A.deeper (envOfC qual scope s.heap.objs.size f cdv)) → sp vs H Q E →
      ∃ t, PSs (cxOf CX0 P w K mg base N qual scope f cdv A outer s H E).nox body t ∧ t { nx := fun _ H' => Q .non H', rt := Q } (L2.start N vs) H) : FnOk P w K mg base CX0 (k + 1) f fd ps sp :=
  F.ok S len fun cdv A outer s H vs Q E hr h => let ⟨t, h1, q⟩ := hbody cdv A outer s H vs Q E hr h; ⟨t, h1.nox, q⟩
theorem asgStar_run {S : Type} {i j : Nat} {w : WE S} {τ : En × S} {k : Rs → En × S → Prop} (h : w.f τ fun d τ1 => match d with
    | .tup (x :: xs) => i < τ1.1.length ∧ j < τ1.1.length ∧ xs.length ≤ 1000000 ∧ k .nx ((τ1.1.set i (.dat x)).set j (.dat (.lst xs)), τ1.2)
    | _ => False) : (wAsgStar i j w).f τ k := h
/-- the state at a def's start -/
theorem stt_start {S : Type} {K : PySem.W.Frag} {A : Am S} {F : Addr → Prop} {H : Hp} {s : S} {N : List Str} {vs : List V} {ds : List Dt} {m : Nat} (am : A.at_ s F H) (fin : ∀ a, A.foot a → F a) (fex : ∀ a, F a → ∃ o, H a = some o ∧ Hd o) (x : DXs K (hidP F H) vs ds) (hN : N.length = vs.length + m) : Stt K A F H (fun _ => 0) (L2.start N vs) H (ent ds m, s) := by
  have hh : ∀ b, hidn F (fun _ => 0) (ent ds m) b ↔ F b := fun b => ⟨fun z => by
    rcases z with z | ⟨i, es, z, _⟩
    · exact z
    · exact (ent_own z).elim, .inl⟩
  have kp : Kp F H (hidn F (fun _ => 0) (ent ds m)) H := fun b o e n => ⟨fun z => n ((hh b).mp z), e⟩
  refine ⟨A.move _ _ _ _ _ am kp fun _ _ e _ => e, ⟨s, _, am⟩, fin, fex, fun b o e _ _ => e, fun i d h => ?_, fun i es h => (ent_own h).elim, fun i j es fs h => (ent_own h).elim, ?_⟩
  · obtain ⟨v, h1, h2⟩ := (x.same kp.same).at_ (ent_dat h)
    exact ⟨v, start_get h1, h2⟩
  · show (ent ds m).length = _
    have := x.len
    rw [start_len (by omega)]
    unfold ent
    rw [List.length_append, List.length_map, List.length_replicate]
    omega
end DL
/-! part K41k -/
namespace Kx
open PySem PySem.Spec PyProof.Rows L2 My DL LamX NdefX
/-- the rows that wait, one after another -/
inductive Rn : Nat → NS → NS → Prop
  | stop {n : NS} {r : Dt} : n.x = some (r, []) → Rn 0 n n
  | row {m : Nat} {n n' : NS} {r b : Dt} {w : List Dt} {i : Int} {row : Rw} : n.x = some (r, w ++ [.tup [.str "row", b, .int i, row.dt]]) → row.ok → ({ n with x := some (r, w) } : NS).small →
      (({ n with x := some (r, w) } : NS).fresh.content (idt n.id) row).2.p.length < 1000000 → Rn m (({ n with x := some (r, w) } : NS).row b i row) n' → Rn (m + 1) n n'
  | half {m : Nat} {n n' : NS} {r b ps wd e f : Dt} {w rows : List Dt} {k : Id'} : n.x = some (r, w ++ [.tup [.str "second half", idt k, .lst rows]]) → valD n.p (idk k) = some (.tup [b, ps, .tup [wd, e, f]]) → n.p.length < 1000000 → w.length + rows.length ≤ 900000 →
      Rn m (({ n with x := some (r, w) } : NS).half k b ps wd e f rows) n' → Rn (m + 1) n n'
theorem kv_if {S : Type} {τ : En × S} {i : Nat} {z z' : Str} {a b : WS S} {k : Rs → En × S → Prop} (e : τ.1[i]? = some (.dat (.str z))) (q : if z = z' then a.f τ k else b.f τ k) :
    (wIfS (wTst (wO2 gEq (wVar i) (wC (.str z')))) a b).f τ k := by
  refine wVar_run (k := fun d τ1 => optK (gEq d (.str z')) fun c => match c with | .bl b1 => if b1 = true then a.f τ1 k else b.f τ1 k | _ => False) e ?_
  show (if decide (z = z') = true then a.f τ k else b.f τ k)
  by_cases h : z = z'
  · rw [if_pos h] at q
    rw [if_pos (decide_eq_true h)]
    exact q
  · rw [if_neg h] at q
    rw [if_neg (by rw [decide_eq_false h]; decide)]
    exact q
section
variable {K : PySem.W.Frag} {B : Ob} {Tb : List (Addr × Str)}
theorem fpop_run {ρ : En} {n : NS} {i : Nat} {r d : Dt} {w : List Dt} {k : Dt → En × OS → Prop} (hx : n.x = some (r, w ++ [d])) (hs : ρ[i]? = some (.dat (.ptr B.a))) (q : k d (ρ, ({ n with x := some (r, w) } : NS).os)) : (wFpop (LOT K B Tb) i "_waiting").f (ρ, n.os) k := by
  refine ⟨hs, n.nd, ?_⟩
  show fdL n.os "_waiting" _
  unfold fdL fdO
  rw [n.l_waiting hx]
  show optK (w ++ [d]).getLast? _
  rw [List.getLast?_concat]
  show k d (ρ, putFd "_waiting" (.own (.lst (w ++ [d]).dropLast)) n.os)
  rw [List.dropLast_concat, n.p_waiting hx]
  exact q
def bInit (K : PySem.W.Frag) (B : Ob) (Tb : List (Addr × Str)) : WS OS := wSeq (wAsgStar 4 5 (wFpop (LOT K B Tb) 0 "_waiting")) (wIfS (wTst (wO2 gEq (wVar 4) (wC (.str "row")))) (wExp (wMethS (LOT K B Tb) (Lens.id (AmOT K B Tb)) 0 "_number_row" 4 (wfR B.a RRow) (wVar 5))) (wExp (wMethS (LOT K B Tb) (Lens.id (AmOT K B Tb)) 0 "_number_second_half" 3 (wfR B.a RHalf) (wVar 5))))
theorem init_loop {S0 a1 a2 a3 : Sl} (hS : S0 = .dat (.ptr B.a)) {k : Rs → En × OS → Prop} : ∀ {m : Nat} {n n' : NS} (a4 a5 : Sl), Rn m n n' → (∀ c, a4 ≠ .own c) → (∀ c, a5 ≠ .own c) →
    (∀ b4 b5, (∀ c, b4 ≠ Sl.own c) → (∀ c, b5 ≠ Sl.own c) → k .nx ([S0, a1, a2, a3, b4, b5], n'.os)) → whN (wFtru (LOT K B Tb) 0 "_waiting") (bInit K B Tb) (m + 1) ([S0, a1, a2, a3, a4, a5], n.os) k
  | _, n, _, a4, a5, .stop hx, h4, h5, q => by
    subst hS
    refine ⟨rfl, ?_⟩
    show fdL n.os "_waiting" _
    unfold fdL fdO
    rw [n.l_waiting hx]
    exact q _ _ h4 h5
  | _, n, n', a4, a5, .row (m := m) (r := r) (b := b) (w := w) (i := i) (row := row) hx ok sm few rn, h4, h5, q => by
    subst hS
    refine ⟨rfl, ?_⟩
    show fdL n.os "_waiting" _
    unfold fdL fdO
    rw [n.l_waiting hx]
    show if (!(w ++ [Dt.tup [.str "row", b, .int i, row.dt]]).isEmpty) = true then _ else _
    rw [if_pos (by simp)]
    refine seq_run ?_
    refine asgStar_run (fpop_run hx (by rfl) ?_)
    refine ⟨by show 4 < 6; decide, by show 5 < 6; decide, by show 3 ≤ 1000000; decide, ?_⟩
    refine kv_if rfl ?_
    rw [if_pos rfl]
    refine ⟨rfl, NS.l_none _ (by decide +kernel), rfl, _, _, _, _, rfl, rfl, ⟨b, i, row, rfl, ok, sm, few, rfl, rfl⟩, ?_⟩
    exact init_loop rfl _ _ rn (fun c z => nomatch z) (fun c z => nomatch z) q
  | _, n, n', a4, a5, .half (m := m) (r := r) (b := b) (ps := ps) (wd := wd) (e := e) (f := f) (w := w) (rows := rows) (k := k0) hx hv few hl rn, h4, h5, q => by
    subst hS
    refine ⟨rfl, ?_⟩
    show fdL n.os "_waiting" _
    unfold fdL fdO
    rw [n.l_waiting hx]
    show if (!(w ++ [Dt.tup [.str "second half", idt k0, .lst rows]]).isEmpty) = true then _ else _
    rw [if_pos (by simp)]
    refine seq_run ?_
    refine asgStar_run (fpop_run hx (by rfl) ?_)
    refine ⟨by show 4 < 6; decide, by show 5 < 6; decide, by show 2 ≤ 1000000; decide, ?_⟩
    refine kv_if rfl ?_
    rw [if_neg (by decide +kernel)]
    refine ⟨rfl, NS.l_none _ (by decide +kernel), rfl, _, _, _, _, rfl, rfl, ⟨k0, b, ps, wd, e, f, rows, rfl, hv, few, rfl, hl, rfl, rfl⟩, ?_⟩
    exact init_loop rfl _ _ rn (fun c z => nomatch z) (fun c z => nomatch z) q
end
theorem NS.l_root (n : NS) {r : Dt} {w : List Dt} (h : n.x = some (r, w)) : n.os.lookup ("root" : Str) = some (.dat r) := by
  rw [NS.os, lkN (by decide +kernel), lkN (by decide +kernel), lkN (by decide +kernel), lkN (by decide +kernel), lkN (by decide +kernel), lkN (by decide +kernel), h]
  exact lkY
theorem NS.l_none0 (n : NS) {f : Str} (h : (["_owner", "behind", "placed", "declared", "used", "told"] : List Str).contains f = false) (hx : n.x = none) : n.os.lookup f = none := by
  simp only [List.contains_cons, Bool.or_eq_false_iff] at h
  obtain ⟨h1, h2, h3, h4, h5, h6, _⟩ := h
  rw [NS.os, lkN h1, lkN h2, lkN h3, lkN h4, lkN h5, lkN h6, hx]
  rfl
/-- the numbering's start -/
def NS.zero (o : Str) (b : Int) : NS := ⟨o, b, [], [], [], [], none⟩
def NS.begun (o : Str) (b : Int) (rows : List Dt) : NS := ({ (NS.zero o b).fresh with x := some (idt (o, b), []) } : NS).push (entries (idt (o, b)) rows)
/-- the promise of Numbering.__init__: the object is new -/
def spInit (K : PySem.W.Frag) (Tb : List (Addr × Str)) (C : Addr) : Sp := fun vs H Q _ => ∃ (H0 : Hp) (x dx : Addr) (F : Addr → Prop) (tv : V) (rows : List Dt) (o : Str) (b : Int) (m : Nat) (n' : NS), vs = [.ref x, tv, .str o, .int b] ∧ H = upd (upd H0 dx (.own x)) x (.ins C dx []) ∧ H0 x = none ∧ H0 dx = none ∧ dx ≠ x ∧
  (AmT Tb).at_ () F H0 ∧ (∀ a, F a → ∃ o, H0 a = some o ∧ Hd o) ∧ DX K (hidP F H0) tv (.lst rows) ∧ rows.length ≤ 100000 ∧ Rn m (NS.begun o b rows) n' ∧
  ∀ (H' : Hp) (B : Ob), B.C = C → B.a = x → (∀ a, B.foot a → H0 a = none) → ObAt K B n'.os (hidB F B) H' → (AmT Tb).at_ () (hidB F B) H' → (∀ b o, H0 b = some o → ¬ (AmT Tb).tab b → H' b = some o) → Q .non H'
theorem spInit_len {K : PySem.W.Frag} {Tb : List (Addr × Str)} {C : Addr} : ∀ vs H Q E, spInit K Tb C vs H Q E → vs.length = 4 := fun vs H Q E ⟨_, _, _, _, _, _, _, _, _, _, h, _⟩ => by rw [h] <;> rfl
section
variable {P : Program} {w : World} {K : PySem.W.Frag} {mg : Str → Option Value} {base : Heap} (T : Tx K mg) (SD : Ts K w mg) (Tb : List (Addr × Str)) (TN : TbN K mg base T)
include SD in
set_option maxHeartbeats 4000000 in
theorem ok_init (hT : HasTab (AmT Tb) TN.P qlamN) : FnOk P w K mg base CX0 9 T.f_Numbering__init__ T.d_Numbering__init__ ["self", "tree", "owner", "start"] (spInit K Tb T.C_Numbering) := by
  refine funD_ok T.F_Numbering__init__ sc_Numbering__init__ (fun vs H Q E h => spInit_len _ _ _ _ h) (fun cdv A outer s H vs Q E hr h => ?_)
  refine ⟨_, (pss_cons (ps_fld (pv 0) (pv 2) rfl)
    (pss_cons (ps_fld (pv 0) (pv 3) rfl)
    (pss_cons (ps_fld (pv 0) pe_dnewT rfl)
    (pss_cons (ps_fld (pv 0) pe_dnewT rfl)
    (pss_cons (ps_fld (pv 0) pe_dnewT rfl)
    (pss_cons (ps_fld (pv 0) pe_dnewT rfl)
    (pss_cons (ps_fld (pv 0) (pe_any (p := fun B => NB T B) (fun B N => d_meth0 (LOT K B Tb) (Lens.id (AmOT K B Tb)) (pv 0) N.c N.m_fresh.mt (ok_fresh (P := P) (w := w) (base := base) T N Tb) (hr.mono (by decide)) T.b_Numbering_fresh)) rfl)
    (pss_cons (ps_fld (pv 0) (pe_lst pa_nil) rfl)
    (pss_any (p := fun B => NB T B) (fun B N => s_cons (s_exp (d_meth (LOT K B Tb) (Lens.id (AmOT K B Tb)) (pv 0) N.c N.m_enter.mt (ok_enter (P := P) (w := w) (base := base) T N Tb) (hr.mono (by decide)) T.b_Numbering_enter (a_cons (d_fld (LOT K B Tb) (pv 0) N.c N.root) (a_cons (d_var (pv 1)) a_nil)) rfl (la_cons (la_cons la_nil)))) (s_one (s_while PassesOwn.never (t_ftru (LOT K B Tb) (pv 0) N.c N.waiting) (s_cons (s_asgStar (i := 4) (j := 5) sc_Numbering__init__.nd rfl rfl (Or.inl rfl) (Or.inl rfl) (d_fpop (LOT K B Tb) (pv 0) N.c N.waiting)) (s_one (s_if (t_cmp op_eq o_eq (d_var (pv 4)) (d_str pe_str) rfl) (s_one (s_exp (d_methS (LOT K B Tb) (Lens.id (AmOT K B Tb)) (pv 0) N.c N.m_number_row (ok_number_row (P := P) (w := w) (base := base) T SD N Tb TN hT) (hr.mono (by decide)) T.b_Numbering_number_row (d_var (pv 5))))) (s_one (s_exp (d_methS (LOT K B Tb) (Lens.id (AmOT K B Tb)) (pv 0) N.c N.m_number_second_half (ok_number_second_half (P := P) (w := w) (base := base) T N Tb) (hr.mono (by decide)) T.b_Numbering_number_second_half (d_var (pv 5)))))))))))))))))))), ?_⟩
  obtain ⟨H0, x, dx, F, tv, rows, o, b, m, n', rfl, rfl, h1, h2, h3, at_, fex, xt, l1, rn, q⟩ := h
  have g := Bg.start (K := K) (Tb := Tb) (C := T.C_Numbering) (N := N_Numbering__init__) (m := 2) (ds := [.lst rows, .str o, .int b]) h1 h2 h3 at_ fex (.cons xt (.cons (.str o) (.cons (.int b) .nil))) rfl
  have N0 : NB T ⟨T.C_Numbering, x, dx, [], fun _ => 0, (fun _ h => nomatch h), (fun _ h => nomatch h), Ne.symm h3⟩ := ⟨rfl⟩
  refine g.setD (d := .str o) N0.c N0.owner rfl rfl (by decide) fun H1 g => ?_
  refine g.setD (d := .int b) N0.c N0.behind rfl rfl (by show 1 < 100; decide) fun H2 g => ?_
  refine g.newT N0.c N0.placed rfl (by simp) (lkPut (by decide +kernel) (lkPut (by decide +kernel) rfl)) (by show 2 < 100; decide) fun H3 B1 c1 a1 _ n1 g => ?_
  have N1 : NB T B1 := ⟨c1⟩
  have n1 : B1.names = [("placed" : Str)] := n1
  refine g.newT N1.c N1.declared (by rw [a1] <;> rfl) (by rw [n1]; decide +kernel) (lkPut (by decide +kernel) (lkPut (by decide +kernel) (lkPut (by decide +kernel) rfl))) (by show 3 < 100; decide) fun H4 B2 c2 a2 _ n2 g => ?_
  rw [n1] at n2
  rw [a1] at a2
  have N2 : NB T B2 := ⟨c2.trans c1⟩
  refine g.newT N2.c N2.used (by rw [a2] <;> rfl) (by rw [n2]; decide +kernel) (lkPut (by decide +kernel) (lkPut (by decide +kernel) (lkPut (by decide +kernel) (lkPut (by decide +kernel) rfl)))) (by show 4 < 100; decide) fun H5 B3 c3 a3 _ n3 g => ?_
  rw [n2] at n3
  rw [a2] at a3
  have N3 : NB T B3 := ⟨c3.trans N2.C⟩
  refine g.newT N3.c N3.told (by rw [a3] <;> rfl) (by rw [n3]; decide +kernel) (lkPut (by decide +kernel) (lkPut (by decide +kernel) (lkPut (by decide +kernel) (lkPut (by decide +kernel) (lkPut (by decide +kernel) rfl))))) (by show 5 < 100; decide) fun H6 B4 c4 a4 _ n4 g => ?_
  rw [n3] at n4
  rw [a3] at a4
  have N4 : NB T B4 := ⟨c4.trans N3.C⟩
  have e4 : putFd "told" (.own (.dt [])) (putFd "used" (.own (.dt [])) (putFd "declared" (.own (.dt [])) (putFd "placed" (.own (.dt [])) (putFd "behind" (.dat (.int b)) (putFd "_owner" (.dat (.str o)) []))))) = (NS.zero o b).os := by kernel_rfl
  rw [e4] at g
  have p4 : (ent [Dt.ptr x, .lst rows, .str o, .int b] 2)[0]? = some (.dat (.ptr B4.a)) := by rw [a4] <;> rfl
  refine ⟨B4, N4, _, _, _, _, g.stt, meth0_run p4 ((NS.zero o b).l_none (by decide +kernel)) ⟨rfl, rfl, rfl⟩ ?_⟩
  intro H7 v O7 st7 k7 x7
  have g := g.back st7 (fun i c h => ent_own h)
  refine g.setV (d := idt (o, b)) N4.c N4.root p4 (x7.same (hidP_same fun b o z _ n => ⟨fun y => n (.inl y), z⟩)) (by show 6 < 100; decide) fun H8 g => ?_
  refine g.newL N4.c N4.waiting p4 (by rw [n4]; decide +kernel) (lkPut (by decide +kernel) (NS.l_none0 _ (by decide +kernel) rfl)) (by show 7 < 100; decide) fun H9 B5 c5 a5 _ n5 g => ?_
  have N5 : NB T B5 := ⟨c5.trans N4.C⟩
  have e5 : putFd "_waiting" (.own (.lst [])) (putFd "root" (.dat (idt (o, b))) (NS.zero o b).fresh.os) = ({ (NS.zero o b).fresh with x := some (idt (o, b), []) } : NS).os := by kernel_rfl
  rw [e5] at g
  have a5 : B5.a = x := a5.trans a4
  have p5 : (ent [Dt.ptr x, .lst rows, .str o, .int b] 2)[0]? = some (.dat (.ptr B5.a)) := by rw [a5] <;> rfl
  refine ⟨B5, N5, _, _, _, _, g.stt, ?_⟩
  refine seq_run (meth_run (n := { (NS.zero o b).fresh with x := some (idt (o, b), []) }) p5 (NS.l_none _ (by decide +kernel)) ?_)
  refine ⟨p5, fdAt (NS.l_root _ rfl) ?_⟩
  refine ⟨_, _, _, rfl, ⟨_, rows, rfl, rfl, by show 0 + rows.length ≤ 900000; omega, rfl, rfl⟩, ?_⟩
  refine ⟨m + 1, init_loop (by rw [a5]) .no .no rn (fun c z => nomatch z) (fun c z => nomatch z) fun b4 b5 h4 h5 => ?_⟩
  intro σ' H' O' st' kp'
  have g := g.back st' (fun i c h => ?_)
  · exact q H' B5 N5.C a5 g.new g.ob g.tb g.ev
  · match i, h with
    | 4, h => exact h4 c (Option.some.inj h)
    | 5, h => exact h5 c (Option.some.inj h)
end
end Kx
/-! part K41l -/
namespace Kx
open PySem PySem.Spec PyProof.Rows L2 My DL LamX NdefX
/-- a sketch: a row without the rows it holds -/
def Rw.skd : Rw → Dt
  | .def_ x ls _ => .tup [.str "def", x, .tup ls]
  | .if_ e _ _ => .tup [.str "if", e.dt]
  | .rep_ e _ => .tup [.str "repeat", e.dt]
  | .blk_ _ => .tup [.str "block"]
  | r => r.dt
def Rw.bare : Rw → Prop
  | .def_ _ _ rows => rows = []
  | .if_ _ r1 r2 => r1 = [] ∧ r2 = []
  | .rep_ _ rows => rows = []
  | .blk_ rows => rows = []
  | _ => True
def wfTree : WF Unit := ⟨fun ds s k => ∃ row : Rw, ds = [row.skd] ∧ row.bare ∧ k (.rt row.dt) s, fun ds s k k' m ⟨r, a, b, h⟩ => ⟨r, a, b, m _ _ h⟩⟩
section
variable {P : Program} {w : World} {K : PySem.W.Frag} {mg : Str → Option Value} {base : Heap} (T : Tx K mg)
set_option maxHeartbeats 4000000 in
theorem ok_tree_row : FnOk P w K mg base CX0 1 T.f_tree_row T.d_tree_row ["sketch"] (spD K Am.none 1 wfTree) := by
  refine T.F_tree_row.ok sc_tree_row (spD_len rfl) (fun cdv A outer s H vs Q E hr h => ?_)
  refine d_body (m := 0) h rfl (s_cons (s_if (t_cmp op_eq o_eq (d_ix ix_seq o_ix (d_var (pv 0)) (d_int pe_int) (fun _ _ => rfl)) (d_str pe_str) rfl) (s_one (s_ret (d_tup (a_star (d_var (pv 0)) (a_cons (d_new (n_lst a_nil)) (a_cons (d_new (n_lst a_nil)) a_nil)))))) s_nil)
    (s_cons (s_if (t_cmp op_in_seq (o_inS false) (d_ix ix_seq o_ix (d_var (pv 0)) (d_int pe_int) (fun _ _ => rfl)) (d_tup (a_cons (d_str pe_str) (a_cons (d_str pe_str) (a_cons (d_str pe_str) a_nil)))) rfl) (s_one (s_ret (d_tup (a_star (d_var (pv 0)) (a_cons (d_new (n_lst a_nil)) a_nil))))) s_nil)
    (s_one (s_ret (d_var (pv 0)))))) (fun ds s k hl hw => ?_)
  obtain ⟨row, rfl, br, q⟩ := hw
  cases row with
  | if_ e r1 r2 =>
    obtain ⟨rfl, rfl⟩ := br
    exact kwS_yes rfl rfl ⟨Nat.zero_le _, Nat.zero_le _, Nat.le_of_ble_eq_true rfl, q⟩
  | def_ x ls rows =>
    obtain rfl : rows = [] := br
    exact kwS_no rfl (by decide +kernel) (kiS_yes rfl (fun k h => ⟨Nat.le_of_ble_eq_true rfl, h⟩) rfl (by decide +kernel) ⟨Nat.zero_le _, Nat.le_of_ble_eq_true rfl, q⟩)
  | rep_ e rows =>
    obtain rfl : rows = [] := br
    exact kwS_no rfl (by decide +kernel) (kiS_yes rfl (fun k h => ⟨Nat.le_of_ble_eq_true rfl, h⟩) rfl (by decide +kernel) ⟨Nat.zero_le _, Nat.le_of_ble_eq_true rfl, q⟩)
  | blk_ rows =>
    obtain rfl : rows = [] := br
    exact kwS_no rfl (by decide +kernel) (kiS_yes rfl (fun k h => ⟨Nat.le_of_ble_eq_true rfl, h⟩) rfl (by decide +kernel) ⟨Nat.zero_le _, Nat.le_of_ble_eq_true rfl, q⟩)
  | let_ x e => exact kwS_no rfl (by decide +kernel) (kiS_no rfl (fun k h => ⟨Nat.le_of_ble_eq_true rfl, h⟩) rfl (by decide +kernel) q)
  | set_ x e => exact kwS_no rfl (by decide +kernel) (kiS_no rfl (fun k h => ⟨Nat.le_of_ble_eq_true rfl, h⟩) rfl (by decide +kernel) q)
  | read_ x => exact kwS_no rfl (by decide +kernel) (kiS_no rfl (fun k h => ⟨Nat.le_of_ble_eq_true rfl, h⟩) rfl (by decide +kernel) q)
  | out_ e => exact kwS_no rfl (by decide +kernel) (kiS_no rfl (fun k h => ⟨Nat.le_of_ble_eq_true rfl, h⟩) rfl (by decide +kernel) q)
  | do_ x es => exact kwS_no rfl (by decide +kernel) (kiS_no rfl (fun k h => ⟨Nat.le_of_ble_eq_true rfl, h⟩) rfl (by decide +kernel) q)
end
/-! ### what the numbering of one row comes to -/
def sk0 (o : Str) (b : Int) : NS := { (NS.zero o b).fresh with x := some (idt (o, b), []) }
def skP (o : Str) (b : Int) (row : Rw) : Dt × NS := (sk0 o b).fresh.content (idt (o, b + 1)) row
def skC (o : Str) (b : Int) (row : Rw) : Dt := match row with
  | .if_ e _ _ => .tup [.str "if", ((sk0 o b).fresh.expr e).1, idt ((sk0 o b).fresh.expr e).2.id, idt (skP o b row).2.id]
  | _ => (skP o b row).1
def skB (o : Str) (b : Int) (row : Rw) : Int := match row with
  | .if_ _ _ _ => (skP o b row).2.b + 1
  | _ => (skP o b row).2.b
theorem leaf_o (n : NS) (d : Dt) : (n.leaf d).2.o = n.o := by
  unfold NS.leaf
  split <;> rfl
theorem expr_o : ∀ (t : Tr) (n : NS), (n.expr t).2.o = n.o
  | .leaf d, n => leaf_o n d
  | .op z l r, n => (expr_o r (n.expr l).2).trans (expr_o l n)
theorem entries_nil (b : Dt) : entries b [] = [] := rfl
theorem blk_nil (n : NS) : n.blk [] = n.fresh := by
  unfold NS.blk
  rw [entries_nil, NS.push_nil]
theorem expr_nx (t : Tr) (n : NS) : (n.expr t).2.x = n.x ∧ (n.expr t).2.p = n.p := ⟨(grw_expr t n).x, (grw_expr t n).p⟩
theorem sk_x {o : Str} {b : Int} {row : Rw} (br : row.bare) (hn : ∀ e r1 r2, row ≠ .if_ e r1 r2) : (skP o b row).2.x = some (idt (o, b), []) ∧ (skP o b row).2.p = [] := by
  unfold skP
  cases row with
  | let_ x e => exact expr_nx e _
  | set_ x e => exact expr_nx e _
  | read_ x => exact ⟨rfl, rfl⟩
  | out_ e => exact expr_nx e _
  | do_ x es =>
    have : ∀ (es : List Tr) (n : NS), (n.exprL es).2.x = n.x ∧ (n.exprL es).2.p = n.p := fun es => by
      induction es with
      | nil => exact fun n => ⟨rfl, rfl⟩
      | cons e es ih => exact fun n => ⟨(ih _).1.trans (expr_nx e n).1, (ih _).2.trans (expr_nx e n).2⟩
    exact this es _
  | def_ x ls rows =>
    obtain rfl : rows = [] := br
    show (((((sk0 o b).fresh.decl x).fresh.declL ls).2.push (entries _ [])).x = _) ∧ (((((sk0 o b).fresh.decl x).fresh.declL ls).2.push (entries _ [])).p = _)
    rw [entries_nil, NS.push_nil]
    exact ⟨(grw_declL ls _).x, (grw_declL ls _).p⟩
  | if_ e r1 r2 => exact absurd rfl (hn e r1 r2)
  | rep_ e rows =>
    obtain rfl : rows = [] := br
    show (((sk0 o b).fresh.expr e).2.blk []).x = _ ∧ (((sk0 o b).fresh.expr e).2.blk []).p = _
    rw [blk_nil]
    exact expr_nx e _
  | blk_ rows =>
    obtain rfl : rows = [] := br
    show ((sk0 o b).fresh.blk []).x = _ ∧ ((sk0 o b).fresh.blk []).p = _
    rw [blk_nil]
    exact ⟨rfl, rfl⟩
end Kx
/-! part K41m -/
namespace Kx
open PySem PySem.Spec PyProof.Rows L2 My DL LamX NdefX
theorem putT_one (k : List Key) (v v' : Dt) : putT [(k, v)] k v' = [(k, v')] := by
  unfold putT
  simp
theorem valD_one (k : List Key) (v : Dt) : valD [(k, v)] k = some v := by
  unfold valD
  simp
/-- the fields that are told -/
structure SkR (o : Str) (b : Int) (row : Rw) (n' : NS) : Prop where
  d : n'.d = (skP o b row).2.d
  u : n'.u = (skP o b row).2.u
  t : n'.t = (skP o b row).2.t
  bb : n'.b = skB o b row
  p : valD n'.p (idk (o, b + 1)) = some (.tup [idt (o, b), .tup [.int 1, .int 1], skC o b row])
theorem sk0_small (o : Str) (b : Int) : (sk0 o b).small := ⟨Nat.zero_le _, Nat.zero_le _, Nat.zero_le _, rfl, Nat.zero_le _⟩
theorem rn_sk {o : Str} {b : Int} {row : Rw} (br : row.bare) (ok : row.ok) : ∃ m n', Rn m (NS.begun o b [row.dt]) n' ∧ SkR o b row n' := by
  have hx : (NS.begun o b [row.dt]).x = some (idt (o, b), [] ++ [.tup [.str "row", idt (o, b), .int 1, row.dt]]) := rfl
  by_cases hi : ∃ e r1 r2, row = .if_ e r1 r2
  · obtain ⟨e, r1, r2, rfl⟩ := hi
    obtain ⟨rfl, rfl⟩ := br
    have ex := expr_nx e (sk0 o b).fresh
    have e2 : (skP o b (.if_ e [] [])).2 = ((((sk0 o b).fresh.expr e).2.push [.tup [.str "second half", idt (o, b + 1), .lst []]])).fresh := by
      show ((((sk0 o b).fresh.expr e).2.push [.tup [.str "second half", idt (o, b + 1), .lst []]])).blk [] = _
      rw [blk_nil]
    have ep : (skP o b (.if_ e [] [])).2.p = [] := by
      rw [e2]
      exact ex.2
    have exx : (skP o b (.if_ e [] [])).2.x = some (idt (o, b), [] ++ [.tup [.str "second half", idt (o, b + 1), .lst []]]) := by
      rw [e2]
      show (((sk0 o b).fresh.expr e).2.push _).x = _
      rw [NS.push_x _ (ex.1.trans (show (sk0 o b).fresh.x = some (idt (o, b), []) from rfl))]
    have c1 : (skP o b (.if_ e [] [])).1 = .tup [.str "if", ((sk0 o b).fresh.expr e).1, idt ((sk0 o b).fresh.expr e).2.id] := rfl
    refine ⟨2, _, .row hx ok (sk0_small o b) (by show (skP o b (.if_ e [] [])).2.p.length < 1000000; rw [ep]; decide) (.half (k := (o, b + 1)) (rows := []) (w := []) (r := idt (o, b)) (b := idt (o, b)) (ps := .tup [.int 1, .int 1]) (wd := .str "if") (e := ((sk0 o b).fresh.expr e).1) (f := idt ((sk0 o b).fresh.expr e).2.id) exx ?_ ?_ (Nat.zero_le _) (.stop rfl)), rfl, rfl, rfl, rfl, ?_⟩
    · show valD (putT (skP o b (.if_ e [] [])).2.p (idk (o, b + 1)) (.tup [idt (o, b), .tup [.int 1, .int 1], (skP o b (.if_ e [] [])).1])) _ = _
      rw [ep, c1]
      exact valD_one _ _
    · show (putT (skP o b (.if_ e [] [])).2.p (idk (o, b + 1)) (.tup [idt (o, b), .tup [.int 1, .int 1], (skP o b (.if_ e [] [])).1])).length < _
      have := putT_len (skP o b (.if_ e [] [])).2.p (idk (o, b + 1)) (.tup [idt (o, b), .tup [.int 1, .int 1], (skP o b (.if_ e [] [])).1])
      rw [ep] at this
      exact Nat.lt_of_le_of_lt (by rw [ep]; exact this) (by decide)
    · show valD (putT (putT (skP o b (.if_ e [] [])).2.p (idk (o, b + 1)) (.tup [idt (o, b), .tup [.int 1, .int 1], (skP o b (.if_ e [] [])).1])) (idk (o, b + 1)) _) (idk (o, b + 1)) = _
      rw [ep, show putT [] (idk (o, b + 1)) (.tup [idt (o, b), .tup [.int 1, .int 1], (skP o b (.if_ e [] [])).1]) = [(idk (o, b + 1), .tup [idt (o, b), .tup [.int 1, .int 1], (skP o b (.if_ e [] [])).1])] from rfl, putT_one, valD_one]
      rfl
  · have hn : ∀ e r1 r2, row ≠ .if_ e r1 r2 := fun e r1 r2 z => hi ⟨e, r1, r2, z⟩
    obtain ⟨sx, sp⟩ := sk_x (o := o) (b := b) br hn
    have sc : skC o b row = (skP o b row).1 := by
      cases row <;> first | rfl | exact absurd rfl (hn _ _ _)
    have sb : skB o b row = (skP o b row).2.b := by
      cases row <;> first | rfl | exact absurd rfl (hn _ _ _)
    refine ⟨1, _, .row hx ok (sk0_small o b) (by show (skP o b row).2.p.length < 1000000; rw [sp]; decide) (.stop (r := idt (o, b)) sx), rfl, rfl, rfl, sb.symm, ?_⟩
    show valD (putT (skP o b row).2.p (idk (o, b + 1)) (.tup [idt (o, b), .tup [.int 1, .int 1], (skP o b row).1])) _ = _
    rw [sp, sc]
    exact valD_one _ _
end Kx
/-! part K41n -/
namespace Kx
open PySem PySem.Spec PyProof.Rows L2 My DL LamX NdefX
/-- the promise of sketched: content, three new dicts, the number behind -/
def spSk (K : PySem.W.Frag) (Tb : List (Addr × Str)) : Sp := fun vs H Q _ => ∃ (F : Addr → Prop) (sv : V) (o : Str) (b : Int) (row : Rw), vs = [sv, .str o, .int (b + 1)] ∧ (AmT Tb).at_ () F H ∧ (∀ a, F a → ∃ o, H a = some o ∧ Hd o) ∧ DX K (hidP F H) sv row.skd ∧ row.bare ∧ row.ok ∧
  ∀ (H' : Hp) (r d1 d2 d3 : Addr) (cv : V) (k1 k2 k3 : List (List Key × V)), H r = none → H d1 = none → H d2 = none → H d3 = none → H' r = some (.tup [cv, .ref d1, .ref d2, .ref d3, .int (skB o b row)]) → H' d1 = some (.dT k1) → H' d2 = some (.dT k2) → H' d3 = some (.dT k3) →
    DX K (hidP F H') cv (skC o b row) → DXt K (hidP F H') k1 (skP o b row).2.d → DXt K (hidP F H') k2 (skP o b row).2.u → DXt K (hidP F H') k3 (skP o b row).2.t → (AmT Tb).at_ () F H' → (∀ b o, H b = some o → ¬ (AmT Tb).tab b → H' b = some o) → Q (.ref r) H'
theorem spSk_len {K : PySem.W.Frag} {Tb : List (Addr × Str)} : ∀ vs H Q E, spSk K Tb vs H Q E → vs.length = 3 := fun vs H Q E ⟨_, _, _, _, _, h, _⟩ => by rw [h] <;> rfl
theorem hidB_less {F : Addr → Prop} {B : Ob} {O : Nat → Addr} {ρ : En} {H : Hp} : Same (hidP (hidn (hidB F B) O ρ) H) (hidP F H) := hidP_same fun b o e _ n => ⟨fun h => n (.inl (.inl h)), e⟩
section
variable {P : Program} {w : World} {K : PySem.W.Frag} {mg : Str → Option Value} {base : Heap} (T : Tx K mg) (SD : Ts K w mg) (Tb : List (Addr × Str)) (TN : TbN K mg base T)
include SD in
set_option maxHeartbeats 4000000 in
theorem ok_sketched (hT : HasTab (AmT Tb) TN.P qlamN) : FnOk P w K mg base CX0 11 T.f_sketched T.d_sketched ["sketch", "person", "start"] (spSk K Tb) := by
  have G_init := ok_init (P := P) (w := w) (base := base) T SD Tb TN hT
  have G_tree := ok_tree_row (P := P) (w := w) (base := base) T
  refine T.F_sketched.ok sc_sketched (fun vs H Q E h => spSk_len _ _ _ _ h) (fun cdv A outer s H vs Q E hr h => ?_)
  refine ⟨_, (pss_cons (ps_set (i := 3) sc_sketched.nd rfl (Or.inl rfl) (pe_make T.k_Numbering G_init (hr.mono (by decide)) (by rfl) T.g_Numbering T.b_Numbering__init__ .nil pass0 (a_cons (d_lst (a_cons (d_call (Lens.none (AmT Tb)) G_tree (hr.mono (by decide)) (by rfl) T.g_tree_row T.F_tree_row.kp T.b_tree_row (a_cons (d_var (pv 0)) a_nil) rfl (la_cons la_nil)) a_nil)) (a_cons (d_var (pv 1)) (a_cons (d_bin op_sub o_sub (d_var (pv 2)) (d_int pe_int)) a_nil)))))
    (pss_cons (ps_any (p := fun B => NB T B) (fun B N => s_asg (d_fget (LOT K B Tb) (Nat.lt_of_le_of_lt (Nat.add_le_add_left (by decide : 1 ≤ 64) _) hr.units) (pv 3) N.c N.placed (d_tup (a_cons (d_var (pv 1)) (a_cons (d_var (pv 2)) a_nil)))) (pg_tup rfl (pgs_cons (pg_name (i := 4) sc_sketched.nd rfl (Or.inl rfl)) (pgs_cons (pg_name (i := 4) sc_sketched.nd rfl (Or.inl rfl)) (pgs_cons (pg_name (i := 5) sc_sketched.nd rfl (Or.inl rfl)) pgs_nil)))) (g_tup (g_cons g_name (g_cons g_name (g_cons g_name g_nil))) (n_cons (n_cons (n_cons n_nil))))))
    (pss_one (ps_ret (pe_tup (pa_cons (pv 5) (pa_cons (pe_fld (pv 3) rfl) (pa_cons (pe_fld (pv 3) rfl) (pa_cons (pe_fld (pv 3) rfl) (pa_cons (pe_fld (pv 3) rfl) pa_nil)))))))))), ?_⟩
  obtain ⟨F, sv, o, b, row, rfl, at_, fex, hx, br, ok, q⟩ := h
  obtain ⟨m, n', rn, R⟩ := rn_sk (o := o) (b := b) br ok
  have st0 : Stt K (AmT Tb) F H (fun _ => 0) (L2.start N_sketched [sv, .str o, .int (b + 1)]) H (ent [row.skd, .str o, .int (b + 1)] 3, ()) := stt_start at_ (fun a f => f.elim) fex (.cons hx (.cons (.str o) (.cons (.int _) .nil))) rfl
  refine ⟨F, H, _, _, st0, row, rfl, br, (by show 1 ≤ 1000000; decide), ?_⟩
  intro H1 vs O1 st1 kp1 xs x dx hx1 hdx ne
  have iff1 : ∀ c, hidn F O1 (ent [row.skd, .str o, .int (b + 1)] 3) c ↔ F c := fun c => ⟨fun h => h.elim id fun ⟨i, cn, e, _⟩ => (ent_own e).elim, .inl⟩
  have at1 : (AmT Tb).at_ () F H1 := AmT.iff st1.am fun c => (iff1 c).symm
  have fex1 : ∀ a, F a → ∃ o, H1 a = some o ∧ Hd o := fun a f => st1.ex (.inl f)
  have less1 : Same (hidP (hidn F O1 (ent [row.skd, .str o, .int (b + 1)] 3)) H1) (hidP F H1) := hidP_same fun c u e _ n => ⟨fun h => n (.inl h), e⟩
  cases xs with
  | @cons tv _ _ _ xt xs =>
  cases xs with
  | @cons _ _ _ _ xo xs =>
  cases xs with
  | @cons _ _ _ _ xb xs =>
  cases xs
  obtain rfl := xo.strI
  obtain rfl := xb.intI
  refine ⟨H1, x, dx, F, tv, [row.dt], o, b, m, n', by rw [show b + 1 - 1 = b by omega] <;> rfl, rfl, hx1, hdx, ne, at1, fex1, xt.same less1, by show 1 ≤ 100000; decide, rn, fun H2 B cB aB new ob tb ev => ⟨rfl, ?_⟩⟩
  have N : NB T B := ⟨cB⟩
  have g : Bg K Tb F H1 B n'.os [some sv, some (.str o), some (.int (b + 1)), some (.ref x), none, none] [.no, .dat (.str o), .dat (.int (b + 1)), .dat (.ptr x), .no, .no] H2 := by
    refine ⟨ob, tb, new, fex1, ev, ⟨_, at1⟩, fun i d h => ?_, fun i c h => ?_, rfl⟩
    · match i, h with
      | 1, h => cases h; exact ⟨_, rfl, .str o⟩
      | 2, h => cases h; exact ⟨_, rfl, .int _⟩
      | 3, h => cases h; exact ⟨_, rfl, .sp rfl⟩
      | 0, h => cases h
      | 4, h => cases h
      | 5, h => cases h
      | n + 6, h => cases h
    · match i, h with
      | 0, h => cases h
      | 1, h => cases h
      | 2, h => cases h
      | 3, h => cases h
      | 4, h => cases h
      | 5, h => cases h
      | n + 6, h => cases h
  refine ⟨B, N, _, _, _, _, g.stt, ?_⟩
  have p3 : ([Sl.no, .dat (.str o), .dat (.int (b + 1)), .dat (.ptr x), .no, .no] : En)[3]? = some (.dat (.ptr B.a)) := by rw [aB] <;> rfl
  refine ⟨p3, fdTAt n'.l_placed ?_⟩
  refine ⟨by show 2 ≤ 1000000; decide, fdTAt n'.l_placed ?_⟩
  show optK (valD n'.p (idk (o, b + 1))) _
  rw [R.p]
  intro σ3 H3 O3 st3 kp3
  obtain ⟨cv, hc, xc⟩ := st3.dat 5 (skC o b row) rfl
  have s3 := st3.slot (i := 3) (a := B.a) (by rw [aB] <;> rfl)
  obtain ⟨vs3, e3, y3⟩ := st3.am.1.ex
  obtain ⟨_, hl1, o1, g1, c1⟩ := y3.o n'.l_declared
  obtain ⟨_, hl2, o2, g2, c2⟩ := y3.o n'.l_used
  obtain ⟨_, hl3, o3, g3, c3⟩ := y3.o n'.l_told
  obtain ⟨vb, hlb, xvb⟩ := y3.d n'.l_behind
  obtain rfl := xvb.intI
  refine ⟨cv, hc, _, s3, B.a, B.C, B.dx, vs3, _, rfl, e3, N.c, N.declared, hl1, _, s3, B.a, B.C, B.dx, vs3, _, rfl, e3, N.c, N.used, hl2, _, s3, B.a, B.C, B.dx, vs3, _, rfl, e3, N.c, N.told, hl3, _, s3, B.a, B.C, B.dx, vs3, _, rfl, e3, N.c, N.behind, hlb, by show 5 ≤ sizeLine; decide, fun r nr => ?_⟩
  cases c1 with
  | @dt k1 _ lk1 x1 =>
  cases c2 with
  | @dt k2 _ lk2 x2 =>
  cases c3 with
  | @dt k3 _ lk3 x3 =>
  have sm := same_new nr (.tup [cv, .ref (B.ow "declared"), .ref (B.ow "used"), .ref (B.ow "told"), .int n'.b])
  have ln : Same (hidP F H3) (hidP F (upd H3 r (.tup [cv, .ref (B.ow "declared"), .ref (B.ow "used"), .ref (B.ow "told"), .int n'.b]))) := (Kp.of sm).same
  have gb := g.back (ρ' := [.no, .dat (.str o), .dat (.int (b + 1)), .dat (.ptr x), .dat (.tup [.int 1, .int 1]), .dat (skC o b row)]) st3 (fun i c h => by
    match i, h with
    | 0, h => cases h
    | 1, h => cases h
    | 2, h => cases h
    | 3, h => cases h
    | 4, h => cases h
    | 5, h => cases h
    | n + 6, h => cases h)
  have ev0 : ∀ c u, H c = some u → ¬ (AmT Tb).tab c → H1 c = some u := fun c u e t => st1.ev c u e (fun f => f) t
  have new0 : ∀ a, H1 a = none → H a = none := fun a e => by
    cases h : H a with
    | none => rfl
    | some u =>
      by_cases t : (AmT Tb).tab a
      · obtain ⟨ps, z⟩ := (AmT Tb).hasT () _ _ a at1 t
        rw [e] at z
        cases z
      · rw [ev0 a u h t] at e
        cases e
  have nf : ∀ f ∈ B.names, H1 (B.ow f) = none := fun f hf => new _ (.inr (.inr ⟨f, hf, rfl⟩))
  have r1 := new0 r (gb.new0 nr)
  rename_i hn1 hn2 hn3
  refine q _ r (B.ow "declared") (B.ow "used") (B.ow "told") cv k1 k2 k3 r1 (new0 _ (nf _ (y3.o n'.l_declared).1)) (new0 _ (nf _ (y3.o n'.l_used).1)) (new0 _ (nf _ (y3.o n'.l_told).1)) (by rw [upd_same, R.bb]) (sm _ _ g1) (sm _ _ g2) (sm _ _ g3) ((xc.same hidB_less).same ln) ?_ ?_ ?_ ?_ ?_
  · rw [← R.d]
    exact (x1.same hidB_less).same ln
  · rw [← R.u]
    exact (x2.same hidB_less).same ln
  · rw [← R.t]
    exact (x3.same hidB_less).same ln
  · exact (AmT Tb).move () _ _ _ _ gb.tb (fun c u e n => ⟨fun h => n (.inl h), sm _ _ e⟩) fun _ _ _ z => z.elim
  · exact fun c u e t => sm _ _ (gb.ev c u (ev0 c u e t) t)
end
end Kx
/-! part K41o -/
namespace Kx
open PySem PySem.Spec PyProof.Rows L2 My DL
/-- all leaves are words with an id -/
def Tr.tl : Tr → Bool
  | .leaf (.tup [.str u, .tup [.str _, .int _]]) => !signs.contains u
  | .leaf _ => false
  | .op z l r => signs.contains z && (l.tl && r.tl)
theorem tl_leaf {d : Dt} (h : (Tr.leaf d).tl = true) : ∃ u x n, d = .tup [.str u, .tup [.str x, .int n]] ∧ signs.contains u = false := by
  unfold Tr.tl at h
  split at h
  · rename_i z
    cases z
    exact ⟨_, _, _, rfl, by simpa using h⟩
  · cases h
  · rename_i z
    cases z
theorem tl_op {z : Str} {l r : Tr} (h : (Tr.op z l r).tl = true) : signs.contains z = true ∧ l.tl = true ∧ r.tl = true := by
  have h1 : (signs.contains z && (l.tl && r.tl)) = true := h
  obtain ⟨h2, h3⟩ := Bool.and_eq_true_iff.mp h1
  exact ⟨h2, Bool.and_eq_true_iff.mp h3⟩
theorem tl_ok : ∀ {t : Tr}, t.tl = true → t.ok = true
  | .leaf d, h => by
    obtain ⟨u, x, n, rfl, e⟩ := tl_leaf h
    show (!signs.contains u) = true
    rw [e]
    rfl
  | .op z l r, h => by
    obtain ⟨h1, h2, h3⟩ := tl_op h
    show (signs.contains z && (l.ok && r.ok)) = true
    rw [h1, tl_ok h2, tl_ok h3]
    rfl
section
variable {P : Program} {w : World} {K : PySem.W.Frag} {mg : Str → Option Value} {base : Heap} (T : Tx K mg) (SD : Ts K w mg)
theorem nd_leaves : N_leaves_of.Nodup := by decide
def Tr.leaves : Tr → List Dt
  | .leaf d => [d]
  | .op z l r => l.leaves ++ r.leaves
def fLeaf : Dt → List Dt
  | .str _ => []
  | d => [d]
theorem parts_kind : ∀ {t : Tr}, t.tl = true → ∀ d ∈ t.parts, (∃ z, d = .str z ∧ signs.contains z = true) ∨ ∃ u x n, d = .tup [.str u, .tup [.str x, .int n]] ∧ signs.contains u = false
  | .leaf d, ok, e, h => by
    obtain ⟨u, x, n, rfl, q⟩ := tl_leaf ok
    exact .inr ⟨u, x, n, List.mem_singleton.mp h, q⟩
  | .op z l r, ok, d, h => by
    obtain ⟨h2, h4, h5⟩ := tl_op ok
    rcases List.mem_append.mp h with h | h
    · exact parts_kind h4 d h
    · rcases List.mem_append.mp h with h | h
      · exact parts_kind h5 d h
      · exact .inl ⟨z, List.mem_singleton.mp h, h2⟩
theorem parts_leaves : ∀ {t : Tr}, t.tl = true → t.parts.flatMap fLeaf = t.leaves
  | .leaf d, ok => by
    obtain ⟨u, x, n, rfl, q⟩ := tl_leaf ok
    rfl
  | .op z l r, ok => by
    obtain ⟨h2, h4, h5⟩ := tl_op ok
    rw [Tr.parts, List.flatMap_append, List.flatMap_append, parts_leaves h4, parts_leaves h5]
    show l.leaves ++ (r.leaves ++ []) = _
    rw [List.append_nil]
    rfl
theorem parts_len : ∀ t : Tr, t.parts.length = t.size
  | .leaf _ => rfl
  | .op z l r => by
    simp [Tr.parts, Tr.size, parts_len l, parts_len r]
    omega
theorem leaves_len : ∀ t : Tr, t.leaves.length ≤ t.size
  | .leaf _ => Nat.le_refl 1
  | .op z l r => by
    have h1 := leaves_len l
    have h2 := leaves_len r
    simp only [Tr.leaves, Tr.size, List.length_append]
    omega
def wfTr (g : Tr → Rs) : WF Unit := ⟨fun ds s k => ∃ t : Tr, ds = [t.dt] ∧ t.tl = true ∧ t.size ≤ 1000 ∧ k (g t) s, fun ds s k k' m ⟨t, a, b, c, h⟩ => ⟨t, a, b, c, m _ _ h⟩⟩
include SD in
theorem ok_leaves_of : FnOk P w K mg base CX0 3 T.f_leaves_of T.d_leaves_of ["expression"] (spD K Am.none 1 (wfTr fun t => .rl t.leaves)) := by
  have G := ok_parts_of (P := P) (w := w) (base := base) T SD
  refine T.F_leaves_of.ok sc_leaves_of (spD_len rfl) (fun cdv A outer s H vs Q E hr h => ?_)
  refine d_body (m := 1) h rfl (s_one (s_retL (n_lc (own := [("part", 1)]) rfl nd_leaves (i_list (d_call (Lens.none Am.none) G (hr.mono (by decide)) (by rfl) T.g_parts_of T.F_parts_of.kp T.b_parts_of (a_cons (d_var (pv 0)) a_nil) rfl (la_cons la_nil))) (blkOk_by (N := N_leaves_of) (sc := defScope s_leaves_of) (by decide +kernel)) (fun _ _ _ _ _ => pg_name (i := 1) sc_leaves_of.nd rfl (Or.inl rfl)) g_name (gw_name (by decide)) (fun _ _ _ _ _ => ts_one (t_notInT SD.q hr.units (d_var (pv 1)) (pe_glob (v := .ref SD.a) (by rfl) SD.g rfl) (by rfl))) (fun _ _ _ _ _ => d_var (pv 1))))) (fun ds s k hl hw => ?_)
  obtain ⟨t, rfl, ok, sz, q⟩ := hw
  refine ⟨t, rfl, tl_ok ok, sz, ?_⟩
  refine lc_run fLeaf t.parts () [] _ (fun d hd => ⟨_, rfl, ?_⟩) (by rw [parts_len]; simp; omega) ⟨?_, ?_⟩
  · rcases parts_kind ok d hd with ⟨z, rfl, hz⟩ | ⟨u, x, n, rfl, hu⟩
    · refine .inl ⟨rfl, fun k' h => ?_⟩
      have e : inT ["*", "+", "-", "<"] true (.str z) = some false := by
        show some (signs.contains z != true) = some false
        rw [hz]
        rfl
      exact wInT_run (d := .str z) rfl e h
    · refine .inr ⟨_, rfl, fun k' h => ?_, fun k' h => h⟩
      exact wInT_run (d := .tup [.str u, .tup [.str x, .int n]]) rfl (inT_leaf (by show (!signs.contains u) = true; rw [hu]; rfl) true) h
  · have e := leaves_len t
    rw [List.nil_append, parts_leaves ok]
    omega
  · show k (.rl (.lst ([] ++ t.parts.flatMap fLeaf))) _
    rw [List.nil_append, parts_leaves ok]
    exact q
end
/-- contents, as a program has them -/
inductive Ct where
  | let_ (i : Id') (e : Tr) | set_ (i : Id') (e : Tr) | read_ (i : Id') | out_ (e : Tr) | do_ (i : Id') (es : List Tr) | def_ (i : Id') (ps : List Id') (b : Id') | if_ (e : Tr) (b c : Id') | rep_ (e : Tr) (b : Id') | blk_ (b : Id')
def Ct.dt : Ct → Dt
  | .let_ i e => .tup [.str "let", idt i, e.dt]
  | .set_ i e => .tup [.str "set", idt i, e.dt]
  | .read_ i => .tup [.str "read", idt i]
  | .out_ e => .tup [.str "out", e.dt]
  | .do_ i es => .tup [.str "do", idt i, .tup (es.map Tr.dt)]
  | .def_ i ps b => .tup [.str "def", idt i, .tup (ps.map idt), idt b]
  | .if_ e b c => .tup [.str "if", e.dt, idt b, idt c]
  | .rep_ e b => .tup [.str "repeat", e.dt, idt b]
  | .blk_ b => .tup [.str "block", idt b]
def Ct.blocks : Ct → List Id'
  | .if_ _ b c => [b, c]
  | .def_ _ _ b => [b]
  | .rep_ _ b => [b]
  | .blk_ b => [b]
  | _ => []
def Ct.exprs : Ct → List Tr
  | .let_ _ e => [e]
  | .set_ _ e => [e]
  | .out_ e => [e]
  | .if_ e _ _ => [e]
  | .rep_ e _ => [e]
  | .do_ _ es => es
  | _ => []
def Ct.decls : Ct → List Id'
  | .let_ i _ => [i]
  | .def_ i ps _ => i :: ps
  | _ => []
def wfCt (g : Ct → Rs) : WF Unit := ⟨fun ds s k => ∃ c : Ct, ds = [c.dt] ∧ k (g c) s, fun ds s k k' m ⟨t, a, h⟩ => ⟨t, a, m _ _ h⟩⟩
section
variable {P : Program} {w : World} {K : PySem.W.Frag} {mg : Str → Option Value} {base : Heap} (T : Tx K mg) (SD : Ts K w mg)
theorem ok_blocks_of : FnOk P w K mg base CX0 1 T.f_blocks_of T.d_blocks_of ["content"] (spD K Am.none 1 (wfCt fun c => .rl (c.blocks.map idt))) := by
  refine T.F_blocks_of.ok sc_blocks_of (spD_len rfl) (fun cdv A outer s H vs Q E hr h => ?_)
  refine d_body (m := 0) h rfl (s_cons (s_if (t_cmp op_eq o_eq (d_ix ix_seq o_ix (d_var (pv 0)) (d_int pe_int) (fun _ _ => rfl)) (d_str pe_str) rfl) (s_one (s_retL (n_lst (a_cons (d_ix ix_seq o_ix (d_var (pv 0)) (d_int pe_int) (fun _ _ => rfl)) (a_cons (d_ix ix_seq o_ix (d_var (pv 0)) (d_int pe_int) (fun _ _ => rfl)) a_nil))))) s_nil)
    (s_cons (s_if (t_cmp op_eq o_eq (d_ix ix_seq o_ix (d_var (pv 0)) (d_int pe_int) (fun _ _ => rfl)) (d_str pe_str) rfl) (s_one (s_retL (n_lst (a_cons (d_ix ix_seq o_ix (d_var (pv 0)) (d_int pe_int) (fun _ _ => rfl)) a_nil)))) s_nil)
    (s_cons (s_if (t_cmp op_eq o_eq (d_ix ix_seq o_ix (d_var (pv 0)) (d_int pe_int) (fun _ _ => rfl)) (d_str pe_str) rfl) (s_one (s_retL (n_lst (a_cons (d_ix ix_seq o_ix (d_var (pv 0)) (d_int pe_int) (fun _ _ => rfl)) a_nil)))) s_nil)
    (s_cons (s_if (t_cmp op_eq o_eq (d_ix ix_seq o_ix (d_var (pv 0)) (d_int pe_int) (fun _ _ => rfl)) (d_str pe_str) rfl) (s_one (s_retL (n_lst (a_cons (d_ix ix_seq o_ix (d_var (pv 0)) (d_int pe_int) (fun _ _ => rfl)) a_nil)))) s_nil)
    (s_one (s_retL (n_lst a_nil))))))) (fun ds s k hl hw => ?_)
  obtain ⟨c, rfl, q⟩ := hw
  cases c <;> (repeat (first | refine kw_yes rfl (by decide +kernel) ?_ | refine kw_no rfl (by decide +kernel) ?_)) <;> exact ⟨Nat.le_of_ble_eq_true rfl, q⟩
set_option maxHeartbeats 4000000 in
theorem ok_expressions_of : FnOk P w K mg base CX0 1 T.f_expressions_of T.d_expressions_of ["content"] (spD K Am.none 1 (wfCt fun c => .rl (c.exprs.map Tr.dt))) := by
  refine T.F_expressions_of.ok sc_expressions_of (spD_len rfl) (fun cdv A outer s H vs Q E hr h => ?_)
  refine d_body (m := 0) h rfl (s_cons (s_if (t_cmp op_in_seq (o_inS false) (d_ix ix_seq o_ix (d_var (pv 0)) (d_int pe_int) (fun _ _ => rfl)) (d_tup (a_cons (d_str pe_str) (a_cons (d_str pe_str) a_nil))) rfl) (s_one (s_retL (n_lst (a_cons (d_ix ix_seq o_ix (d_var (pv 0)) (d_int pe_int) (fun _ _ => rfl)) a_nil)))) s_nil)
    (s_cons (s_if (t_cmp op_in_seq (o_inS false) (d_ix ix_seq o_ix (d_var (pv 0)) (d_int pe_int) (fun _ _ => rfl)) (d_tup (a_cons (d_str pe_str) (a_cons (d_str pe_str) (a_cons (d_str pe_str) a_nil)))) rfl) (s_one (s_retL (n_lst (a_cons (d_ix ix_seq o_ix (d_var (pv 0)) (d_int pe_int) (fun _ _ => rfl)) a_nil)))) s_nil)
    (s_cons (s_if (t_cmp op_eq o_eq (d_ix ix_seq o_ix (d_var (pv 0)) (d_int pe_int) (fun _ _ => rfl)) (d_str pe_str) rfl) (s_one (s_retL (n_listOf (by rfl) T.z_list (a_cons (d_ix ix_seq o_ix (d_var (pv 0)) (d_int pe_int) (fun _ _ => rfl)) a_nil)))) s_nil)
    (s_one (s_retL (n_lst a_nil)))))) (fun ds s k hl hw => ?_)
  obtain ⟨c, rfl, q⟩ := hw
  cases c with
  | let_ i e =>
    refine kiS_yes rfl (fun k h => ⟨Nat.le_of_ble_eq_true rfl, h⟩) rfl (by decide +kernel) ?_
    exact ⟨Nat.le_of_ble_eq_true rfl, q⟩
  | set_ i e =>
    refine kiS_yes rfl (fun k h => ⟨Nat.le_of_ble_eq_true rfl, h⟩) rfl (by decide +kernel) ?_
    exact ⟨Nat.le_of_ble_eq_true rfl, q⟩
  | read_ i =>
    refine kiS_no rfl (fun k h => ⟨Nat.le_of_ble_eq_true rfl, h⟩) rfl (by decide +kernel) ?_
    refine kiS_no rfl (fun k h => ⟨Nat.le_of_ble_eq_true rfl, h⟩) rfl (by decide +kernel) ?_
    refine kwS_no rfl (by decide +kernel) ?_
    exact ⟨Nat.le_of_ble_eq_true rfl, q⟩
  | out_ e =>
    refine kiS_no rfl (fun k h => ⟨Nat.le_of_ble_eq_true rfl, h⟩) rfl (by decide +kernel) ?_
    refine kiS_yes rfl (fun k h => ⟨Nat.le_of_ble_eq_true rfl, h⟩) rfl (by decide +kernel) ?_
    exact ⟨Nat.le_of_ble_eq_true rfl, q⟩
  | do_ i es =>
    refine kiS_no rfl (fun k h => ⟨Nat.le_of_ble_eq_true rfl, h⟩) rfl (by decide +kernel) ?_
    refine kiS_no rfl (fun k h => ⟨Nat.le_of_ble_eq_true rfl, h⟩) rfl (by decide +kernel) ?_
    refine kwS_yes rfl (by decide +kernel) ?_
    exact q
  | def_ i ps b =>
    refine kiS_no rfl (fun k h => ⟨Nat.le_of_ble_eq_true rfl, h⟩) rfl (by decide +kernel) ?_
    refine kiS_no rfl (fun k h => ⟨Nat.le_of_ble_eq_true rfl, h⟩) rfl (by decide +kernel) ?_
    refine kwS_no rfl (by decide +kernel) ?_
    exact ⟨Nat.le_of_ble_eq_true rfl, q⟩
  | if_ e b c =>
    refine kiS_no rfl (fun k h => ⟨Nat.le_of_ble_eq_true rfl, h⟩) rfl (by decide +kernel) ?_
    refine kiS_yes rfl (fun k h => ⟨Nat.le_of_ble_eq_true rfl, h⟩) rfl (by decide +kernel) ?_
    exact ⟨Nat.le_of_ble_eq_true rfl, q⟩
  | rep_ e b =>
    refine kiS_no rfl (fun k h => ⟨Nat.le_of_ble_eq_true rfl, h⟩) rfl (by decide +kernel) ?_
    refine kiS_yes rfl (fun k h => ⟨Nat.le_of_ble_eq_true rfl, h⟩) rfl (by decide +kernel) ?_
    exact ⟨Nat.le_of_ble_eq_true rfl, q⟩
  | blk_ b =>
    refine kiS_no rfl (fun k h => ⟨Nat.le_of_ble_eq_true rfl, h⟩) rfl (by decide +kernel) ?_
    refine kiS_no rfl (fun k h => ⟨Nat.le_of_ble_eq_true rfl, h⟩) rfl (by decide +kernel) ?_
    refine kwS_no rfl (by decide +kernel) ?_
    exact ⟨Nat.le_of_ble_eq_true rfl, q⟩
end
def declD (i : Id') : Dt := .tup [.str "declaration", idt i]
def useD (i : Id') : Dt := .tup [.str "use", idt i]
def blkD (i : Id') : Dt := .tup [.str "block", idt i]
def Ct.things : Ct → List Dt
  | .let_ i e => declD i :: e.leaves
  | .set_ i e => useD i :: e.leaves
  | .read_ i => [useD i]
  | .out_ e => e.leaves
  | .do_ i es => useD i :: es.flatMap Tr.leaves
  | .def_ i ps b => declD i :: blkD b :: ps.map declD
  | .if_ e b c => e.leaves ++ [blkD b, blkD c]
  | .rep_ e b => e.leaves ++ [blkD b]
  | .blk_ b => [blkD b]
/-- nothing is too large -/
def Ct.fit (c : Ct) : Prop := (∀ e ∈ c.exprs, e.tl = true ∧ e.size ≤ 1000) ∧ c.exprs.length ≤ 100 ∧ match c with
  | .def_ _ ps _ => ps.length ≤ 1000
  | _ => True
def wfCf (g : Ct → Rs) : WF Unit := ⟨fun ds s k => ∃ c : Ct, ds = [c.dt] ∧ c.fit ∧ k (g c) s, fun ds s k k' m ⟨t, a, f, h⟩ => ⟨t, a, f, m _ _ h⟩⟩
section
variable {P : Program} {w : World} {K : PySem.W.Frag} {mg : Str → Option Value} {base : Heap} (T : Tx K mg) (SD : Ts K w mg)
theorem ok_declared_by : FnOk P w K mg base CX0 1 T.f_declared_by T.d_declared_by ["content"] (spD K Am.none 1 (wfCf fun c => .rl (c.decls.map idt))) := by
  refine T.F_declared_by.ok sc_declared_by (spD_len rfl) (fun cdv A outer s H vs Q E hr h => ?_)
  refine d_body (m := 0) h rfl (s_cons (s_if (t_cmp op_eq o_eq (d_ix ix_seq o_ix (d_var (pv 0)) (d_int pe_int) (fun _ _ => rfl)) (d_str pe_str) rfl) (s_one (s_retL (n_lst (a_cons (d_ix ix_seq o_ix (d_var (pv 0)) (d_int pe_int) (fun _ _ => rfl)) a_nil)))) s_nil)
    (s_cons (s_if (t_cmp op_eq o_eq (d_ix ix_seq o_ix (d_var (pv 0)) (d_int pe_int) (fun _ _ => rfl)) (d_str pe_str) rfl) (s_one (s_retL (n_lst (a_cons (d_ix ix_seq o_ix (d_var (pv 0)) (d_int pe_int) (fun _ _ => rfl)) (a_star (d_ix ix_seq o_ix (d_var (pv 0)) (d_int pe_int) (fun _ _ => rfl)) a_nil))))) s_nil)
    (s_one (s_retL (n_lst a_nil))))) (fun ds s k hl hw => ?_)
  obtain ⟨c, rfl, f, q⟩ := hw
  cases c with
  | let_ i e =>
    refine kwS_yes rfl (by decide +kernel) ?_
    exact ⟨Nat.le_of_ble_eq_true rfl, q⟩
  | set_ i e =>
    refine kwS_no rfl (by decide +kernel) ?_
    refine kwS_no rfl (by decide +kernel) ?_
    exact ⟨Nat.le_of_ble_eq_true rfl, q⟩
  | read_ i =>
    refine kwS_no rfl (by decide +kernel) ?_
    refine kwS_no rfl (by decide +kernel) ?_
    exact ⟨Nat.le_of_ble_eq_true rfl, q⟩
  | out_ e =>
    refine kwS_no rfl (by decide +kernel) ?_
    refine kwS_no rfl (by decide +kernel) ?_
    exact ⟨Nat.le_of_ble_eq_true rfl, q⟩
  | do_ i es =>
    refine kwS_no rfl (by decide +kernel) ?_
    refine kwS_no rfl (by decide +kernel) ?_
    exact ⟨Nat.le_of_ble_eq_true rfl, q⟩
  | def_ i ps b =>
    refine kwS_no rfl (by decide +kernel) ?_
    refine kwS_yes rfl (by decide +kernel) ?_
    have l : ps.length ≤ 1000 := f.2.2
    show (idt i :: (ps.map idt ++ [])).length ≤ 1000000 ∧ k (.rl (.lst (idt i :: (ps.map idt ++ [])))) s
    rw [List.append_nil]
    exact ⟨by simp; omega, q⟩
  | if_ e b c =>
    refine kwS_no rfl (by decide +kernel) ?_
    refine kwS_no rfl (by decide +kernel) ?_
    exact ⟨Nat.le_of_ble_eq_true rfl, q⟩
  | rep_ e b =>
    refine kwS_no rfl (by decide +kernel) ?_
    refine kwS_no rfl (by decide +kernel) ?_
    exact ⟨Nat.le_of_ble_eq_true rfl, q⟩
  | blk_ b =>
    refine kwS_no rfl (by decide +kernel) ?_
    refine kwS_no rfl (by decide +kernel) ?_
    exact ⟨Nat.le_of_ble_eq_true rfl, q⟩
end
def wfDef : WF Unit := ⟨fun ds s k => ∃ (i : Id') (ps : List Id') (b : Id'), ds = [(Ct.def_ i ps b).dt] ∧ ps.length ≤ 1000 ∧ k (.rl (Ct.def_ i ps b).things) s, fun ds s k k' m ⟨i, ps, b, h1, h2, h⟩ => ⟨i, ps, b, h1, h2, m _ _ h⟩⟩
section
variable {P : Program} {w : World} {K : PySem.W.Frag} {mg : Str → Option Value} {base : Heap} (T : Tx K mg) (SD : Ts K w mg)
theorem ok_definition_things : FnOk P w K mg base CX0 1 T.f_definition_things T.d_definition_things ["content"] (spD K Am.none 1 wfDef) := by
  refine T.F_definition_things.ok sc_definition_things (spD_len rfl) (fun cdv A outer s H vs Q E hr h => ?_)
  refine d_body (m := 6) h rfl (s_cons (s_asg (d_var (pv 0)) (pg_tup rfl (pgs_cons (pg_name (i := 1) sc_definition_things.nd rfl (Or.inl rfl)) (pgs_cons (pg_name (i := 2) sc_definition_things.nd rfl (Or.inl rfl)) (pgs_cons (pg_name (i := 3) sc_definition_things.nd rfl (Or.inl rfl)) (pgs_cons (pg_name (i := 4) sc_definition_things.nd rfl (Or.inl rfl)) pgs_nil))))) (g_tup (g_cons g_name (g_cons g_name (g_cons g_name (g_cons g_name g_nil)))) (n_cons (n_cons (n_cons (n_cons n_nil)))))) (s_cons (s_set (i := 5) sc_definition_things.nd rfl (Or.inl rfl) (d_lst (a_cons (d_tup (a_cons (d_str pe_str) (a_cons (d_var (pv 2)) a_nil))) (a_cons (d_tup (a_cons (d_str pe_str) (a_cons (d_var (pv 4)) a_nil))) a_nil))))
    (s_one (s_retL (n_cat (d_var (pv 5)) (d_lc (own := [("parameter", 6)]) rfl sc_definition_things.nd (i_tup (d_var (pv 3))) (blkOk_by (N := N_definition_things) (sc := defScope s_definition_things) (by decide +kernel)) (fun _ _ _ _ _ => pg_name (i := 6) sc_definition_things.nd rfl (Or.inl rfl)) g_name (gw_name (by decide)) (fun _ _ _ _ _ => ts_nil) (fun _ _ _ _ _ => (d_tup (a_cons (d_str pe_str) (a_cons (d_var (pv 6)) a_nil)))))))))) (fun ds s k hl hw => ?_)
  obtain ⟨i, ps, b, rfl, l, q⟩ := hw
  refine ⟨Nat.le_of_ble_eq_true rfl, Nat.le_of_ble_eq_true rfl, Nat.le_of_ble_eq_true rfl, ?_⟩
  refine itP (by show 5 < 7; decide) ?_
  have e : ∀ l : List Id', (l.map idt).flatMap (fun d => [Dt.tup [.str "declaration", d]]) = l.map declD := fun l => by
    induction l with
    | nil => rfl
    | cons x xs ih => rw [List.map_cons, List.flatMap_cons, ih]; rfl
  refine lc_run (fun d => [Dt.tup [.str "declaration", d]]) (ps.map idt) () [] _ (fun d hd => ⟨_, rfl, .inr ⟨_, rfl, fun k' h => h, fun k' h => ⟨Nat.le_of_ble_eq_true rfl, h⟩⟩⟩) (by simp; omega) ⟨?_, ?_⟩
  · rw [List.nil_append, e]
    simp
    omega
  · rw [List.nil_append, e]
    show [declD i, blkD b].length + (ps.map declD).length ≤ 1000000 ∧ k (.rl (.lst ([declD i, blkD b] ++ ps.map declD))) _
    exact ⟨by simp; omega, q⟩
end
/-! ### things_of -/
def bodyT : WS Unit := wExt 1 (wCall (A := Am.none) (Lens.none Am.none) (wfTr fun t => .rl t.leaves) (wCons (wVar 2) wNil))
def restT : WS Unit := wSeq (wFor (wItL (wCall (A := Am.none) (Lens.none Am.none) (wfCt fun c => .rl (c.exprs.map Tr.dt)) (wCons (wVar 0) wNil))) (wgName 2) bodyT) (wSeq (wExt 1 (wLc (wItL (wCall (A := Am.none) (Lens.none Am.none) (wfCt fun c => .rl (c.blocks.map idt)) (wCons (wVar 0) wNil))) (wgName 3) wYes (wTup (wCons (wC (.str "block")) (wCons (wVar 3) wNil))) [3])) (wRetOwn 1))
theorem things_loop : ∀ (es : List Tr) (ps : List Dt) (a0 a2 a3 : Sl) (s : Unit) (k : Rs → En × Unit → Prop), (∀ e ∈ es, e.tl = true ∧ e.size ≤ 1000) → ps.length + (es.flatMap Tr.leaves).length ≤ 1000000 →
    (∀ b2, k .nx ([a0, .own (.lst (ps ++ es.flatMap Tr.leaves)), b2, a3], s)) → lpN (wgName 2) bodyT (es.map Tr.dt) ([a0, .own (.lst ps), a2, a3], s) k
  | [], ps, a0, a2, a3, s, k, _, _, q => by
    have q1 := q a2
    rw [List.flatMap_nil, List.append_nil] at q1
    exact q1
  | e :: es, ps, a0, a2, a3, s, k, h, l, q => by
    have he := h e List.mem_cons_self
    rw [List.flatMap_cons, List.length_append] at l
    refine ⟨e, rfl, he.1, he.2, ?_⟩
    refine ⟨by omega, ?_⟩
    refine things_loop es (ps ++ e.leaves) a0 (.dat e.dt) a3 s k (fun x hx => h x (List.mem_cons_of_mem _ hx)) (by rw [List.length_append]; omega) fun b2 => ?_
    have q1 := q b2
    rw [List.flatMap_cons, ← List.append_assoc] at q1
    exact q1
theorem leaves_all : ∀ es : List Tr, (∀ e ∈ es, e.tl = true ∧ e.size ≤ 1000) → (es.flatMap Tr.leaves).length ≤ es.length * 1000
  | [], _ => Nat.le_refl 0
  | e :: es, h => by
    have h1 := leaves_all es fun x hx => h x (List.mem_cons_of_mem _ hx)
    have h2 := leaves_len e
    have h3 := (h e List.mem_cons_self).2
    rw [List.flatMap_cons, List.length_append, List.length_cons, Nat.succ_mul]
    omega
theorem blocks_two (c : Ct) : c.blocks.length ≤ 2 := by
  cases c <;> exact Nat.le_of_ble_eq_true rfl
theorem rest_run (c : Ct) (pre : List Dt) (f : c.fit) (hp : pre.length ≤ 1) (k : Rs → En × Unit → Prop) (q : ∀ b2, k (.rl (.lst (pre ++ c.exprs.flatMap Tr.leaves ++ c.blocks.map blkD))) ([.dat c.dt, .own (.lst (pre ++ c.exprs.flatMap Tr.leaves ++ c.blocks.map blkD)), b2, .no], ())) :
    restT.f ([.dat c.dt, .own (.lst pre), .no, .no], ()) k := by
  have h1 := leaves_all c.exprs f.1
  have h2 : c.exprs.length ≤ 100 := f.2.1
  have h3 := blocks_two c
  refine ⟨c, rfl, ?_⟩
  refine things_loop c.exprs pre _ _ _ _ _ f.1 (by omega) fun b2 => ?_
  refine ⟨c, rfl, ?_⟩
  have e : ∀ l : List Id', (l.map idt).flatMap (fun d => [Dt.tup [.str "block", d]]) = l.map blkD := fun l => by
    induction l with
    | nil => rfl
    | cons x xs ih => rw [List.map_cons, List.flatMap_cons, ih]; rfl
  refine lc_run (fun d => [Dt.tup [.str "block", d]]) (c.blocks.map idt) () [] _ (fun d hd => ⟨_, rfl, .inr ⟨_, rfl, fun k' h => h, fun k' h => ⟨Nat.le_of_ble_eq_true rfl, h⟩⟩⟩) (by simp; omega) ⟨?_, ?_⟩
  · rw [List.nil_append, e]
    simp
    omega
  · rw [List.nil_append, e]
    refine ⟨by simp only [List.length_append, List.length_map]; omega, ?_⟩
    exact q b2
section
variable {P : Program} {w : World} {K : PySem.W.Frag} {mg : Str → Option Value} {base : Heap} (T : Tx K mg) (SD : Ts K w mg)
set_option maxHeartbeats 4000000 in
include SD in
theorem ok_things_of : FnOk P w K mg base CX0 4 T.f_things_of T.d_things_of ["content"] (spD K Am.none 1 (wfCf fun c => .rl c.things)) := by
  have G_leaves_of := ok_leaves_of (P := P) (w := w) (base := base) T SD
  have G_definition_things := ok_definition_things (P := P) (w := w) (base := base) T
  have G_expressions_of := ok_expressions_of (P := P) (w := w) (base := base) T
  have G_blocks_of := ok_blocks_of (P := P) (w := w) (base := base) T
  refine T.F_things_of.ok sc_things_of (spD_len rfl) (fun cdv A outer s H vs Q E hr h => ?_)
  refine d_body (m := 3) h rfl (s_cons (s_if (t_cmp op_eq o_eq (d_ix ix_seq o_ix (d_var (pv 0)) (d_int pe_int) (fun _ _ => rfl)) (d_str pe_str) rfl) (s_one (s_retL (n_call (Lens.none Am.none) G_definition_things (hr.mono (by decide)) (by rfl) T.g_definition_things T.F_definition_things.kp T.b_definition_things (a_cons (d_var (pv 0)) a_nil) rfl (la_cons la_nil)))) s_nil) (s_cons (s_setOwn (i := 1) sc_things_of.nd rfl (Or.inl rfl) a_nil)
    (s_cons (s_if (t_cmp op_eq o_eq (d_ix ix_seq o_ix (d_var (pv 0)) (d_int pe_int) (fun _ _ => rfl)) (d_str pe_str) rfl) (s_one (s_app (pv 1) (d_tup (a_cons (d_str pe_str) (a_cons (d_ix ix_seq o_ix (d_var (pv 0)) (d_int pe_int) (fun _ _ => rfl)) a_nil))))) s_nil)
    (s_cons (s_if (t_cmp op_in_seq (o_inS false) (d_ix ix_seq o_ix (d_var (pv 0)) (d_int pe_int) (fun _ _ => rfl)) (d_tup (a_cons (d_str pe_str) (a_cons (d_str pe_str) (a_cons (d_str pe_str) a_nil)))) rfl) (s_one (s_app (pv 1) (d_tup (a_cons (d_str pe_str) (a_cons (d_ix ix_seq o_ix (d_var (pv 0)) (d_int pe_int) (fun _ _ => rfl)) a_nil))))) s_nil)
    (s_cons (s_for PassesOwn.never rfl (i_list (d_call (Lens.none Am.none) G_expressions_of (hr.mono (by decide)) (by rfl) T.g_expressions_of T.F_expressions_of.kp T.b_expressions_of (a_cons (d_var (pv 0)) a_nil) rfl (la_cons la_nil))) (pg_name (i := 2) sc_things_of.nd rfl (Or.inl rfl)) g_name (s_one (s_ext (pv 1) (d_call (Lens.none Am.none) G_leaves_of (hr.mono (by decide)) (by rfl) T.g_leaves_of T.F_leaves_of.kp T.b_leaves_of (a_cons (d_var (pv 2)) a_nil) rfl (la_cons la_nil)))))
    (s_cons (s_ext (pv 1) (d_lc (own := [("block", 3)]) rfl sc_things_of.nd (i_list (d_call (Lens.none Am.none) G_blocks_of (hr.mono (by decide)) (by rfl) T.g_blocks_of T.F_blocks_of.kp T.b_blocks_of (a_cons (d_var (pv 0)) a_nil) rfl (la_cons la_nil))) (blkOk_by (N := N_things_of) (sc := defScope s_things_of) (by decide +kernel)) (fun _ _ _ _ _ => pg_name (i := 3) sc_things_of.nd rfl (Or.inl rfl)) g_name (gw_name (by decide)) (fun _ _ _ _ _ => ts_nil) (fun _ _ _ _ _ => (d_tup (a_cons (d_str pe_str) (a_cons (d_var (pv 3)) a_nil))))))
    (s_one (s_retOwn (pv 1))))))))) (fun ds s k hl hw => ?_)
  obtain ⟨c, rfl, f, q⟩ := hw
  cases c with
  | let_ i e =>
    refine kwS_no rfl (by decide +kernel) ?_
    refine ⟨Nat.zero_le _, ?_⟩
    refine itP (by show 1 < 4; decide) ?_
    refine kwS_yes rfl (by decide +kernel) ?_
    refine ⟨Nat.le_of_ble_eq_true rfl, (by show 0 < 1000000; decide), ?_⟩
    refine kiS_no rfl (fun k h => ⟨Nat.le_of_ble_eq_true rfl, h⟩) rfl (by decide +kernel) ?_
    refine rest_run (.let_ i e) [declD i] f (Nat.le_of_ble_eq_true rfl) _ fun b2 => ?_
    simpa [Ct.things, Ct.exprs, Ct.blocks] using q
  | set_ i e =>
    refine kwS_no rfl (by decide +kernel) ?_
    refine ⟨Nat.zero_le _, ?_⟩
    refine itP (by show 1 < 4; decide) ?_
    refine kwS_no rfl (by decide +kernel) ?_
    refine kiS_yes rfl (fun k h => ⟨Nat.le_of_ble_eq_true rfl, h⟩) rfl (by decide +kernel) ?_
    refine ⟨Nat.le_of_ble_eq_true rfl, (by show 0 < 1000000; decide), ?_⟩
    refine rest_run (.set_ i e) [useD i] f (Nat.le_of_ble_eq_true rfl) _ fun b2 => ?_
    simpa [Ct.things, Ct.exprs, Ct.blocks] using q
  | read_ i =>
    refine kwS_no rfl (by decide +kernel) ?_
    refine ⟨Nat.zero_le _, ?_⟩
    refine itP (by show 1 < 4; decide) ?_
    refine kwS_no rfl (by decide +kernel) ?_
    refine kiS_yes rfl (fun k h => ⟨Nat.le_of_ble_eq_true rfl, h⟩) rfl (by decide +kernel) ?_
    refine ⟨Nat.le_of_ble_eq_true rfl, (by show 0 < 1000000; decide), ?_⟩
    refine rest_run (.read_ i) [useD i] f (Nat.le_of_ble_eq_true rfl) _ fun b2 => ?_
    simpa [Ct.things, Ct.exprs, Ct.blocks] using q
  | out_ e =>
    refine kwS_no rfl (by decide +kernel) ?_
    refine ⟨Nat.zero_le _, ?_⟩
    refine itP (by show 1 < 4; decide) ?_
    refine kwS_no rfl (by decide +kernel) ?_
    refine kiS_no rfl (fun k h => ⟨Nat.le_of_ble_eq_true rfl, h⟩) rfl (by decide +kernel) ?_
    refine rest_run (.out_ e) [] f (Nat.le_of_ble_eq_true rfl) _ fun b2 => ?_
    simpa [Ct.things, Ct.exprs, Ct.blocks] using q
  | do_ i es =>
    refine kwS_no rfl (by decide +kernel) ?_
    refine ⟨Nat.zero_le _, ?_⟩
    refine itP (by show 1 < 4; decide) ?_
    refine kwS_no rfl (by decide +kernel) ?_
    refine kiS_yes rfl (fun k h => ⟨Nat.le_of_ble_eq_true rfl, h⟩) rfl (by decide +kernel) ?_
    refine ⟨Nat.le_of_ble_eq_true rfl, (by show 0 < 1000000; decide), ?_⟩
    refine rest_run (.do_ i es) [useD i] f (Nat.le_of_ble_eq_true rfl) _ fun b2 => ?_
    simpa [Ct.things, Ct.exprs, Ct.blocks] using q
  | if_ e b c =>
    refine kwS_no rfl (by decide +kernel) ?_
    refine ⟨Nat.zero_le _, ?_⟩
    refine itP (by show 1 < 4; decide) ?_
    refine kwS_no rfl (by decide +kernel) ?_
    refine kiS_no rfl (fun k h => ⟨Nat.le_of_ble_eq_true rfl, h⟩) rfl (by decide +kernel) ?_
    refine rest_run (.if_ e b c) [] f (Nat.le_of_ble_eq_true rfl) _ fun b2 => ?_
    simpa [Ct.things, Ct.exprs, Ct.blocks] using q
  | rep_ e b =>
    refine kwS_no rfl (by decide +kernel) ?_
    refine ⟨Nat.zero_le _, ?_⟩
    refine itP (by show 1 < 4; decide) ?_
    refine kwS_no rfl (by decide +kernel) ?_
    refine kiS_no rfl (fun k h => ⟨Nat.le_of_ble_eq_true rfl, h⟩) rfl (by decide +kernel) ?_
    refine rest_run (.rep_ e b) [] f (Nat.le_of_ble_eq_true rfl) _ fun b2 => ?_
    simpa [Ct.things, Ct.exprs, Ct.blocks] using q
  | blk_ b =>
    refine kwS_no rfl (by decide +kernel) ?_
    refine ⟨Nat.zero_le _, ?_⟩
    refine itP (by show 1 < 4; decide) ?_
    refine kwS_no rfl (by decide +kernel) ?_
    refine kiS_no rfl (fun k h => ⟨Nat.le_of_ble_eq_true rfl, h⟩) rfl (by decide +kernel) ?_
    refine rest_run (.blk_ b) [] f (Nat.le_of_ble_eq_true rfl) _ fun b2 => ?_
    simpa [Ct.things, Ct.exprs, Ct.blocks] using q
  | def_ i ps b =>
    refine kwS_yes rfl (by decide +kernel) ?_
    exact ⟨i, ps, b, rfl, f.2.2, q⟩
end
end Kx
/-! part K41p -/
namespace Kx
open PySem PySem.Spec PyProof.Rows L2 My
section
variable {P : Program} {w : World} {K : PySem.W.Frag} {mg : Str → Option Value} {base : Heap} (T : Tx K mg)
theorem ok_draw0 : FnOk P w K mg base CX0 1 T.f__law_draw T.d__law_draw ["_law_box", "_law_many"] spDraw0 := by
  refine T.F__law_draw.ok sc__law_draw (fun vs H Q E h => ?_) (fun cdv A outer s H vs Q E hr h => ?_)
  · obtain ⟨a, l, ns, k, xs, rfl, _⟩ := h
    rfl
  obtain ⟨a, l, ns, k, xs, rfl, hl, ha, la, ⟨i, g, m, n, rfl, i0, i1, m0, m1⟩, k0, k1, q⟩ := h
  refine ⟨_, (pss_cons (ps_asg (pe_op op_add (pe_ix ix_list (pv 0) pe_int (fun _ _ => rfl)) pe_int) (pg_sub (pv 0) pe_int set_list))
  (C8.pss_cut (ps_if (PW.pt (pw_and (pt_cmpR op_lt (pe_ix ix_list (pv 0) pe_int (fun _ _ => rfl)) pe_int (nomark _)) (pw_and1 (pt_cmpR op_lt (pe_ix ix_list (pv 0) pe_int (fun _ _ => rfl)) (pe_callB call_len_seq (by rfl) T.z_len (by decide +kernel) (pa_cons (pe_ix ix_list (pv 0) pe_int (fun _ _ => rfl)) pa_nil)) (nomark _)))))
    (pss_cons (ps_set (i := 2) sc__law_draw.nd rfl (Or.inl rfl) (pe_ix ix_list (pe_ix ix_list (pv 0) pe_int (fun _ _ => rfl)) (pe_ix ix_list (pv 0) pe_int (fun _ _ => rfl)) (fun _ _ => rfl)))
    (pss_cons (ps_asg (pe_op op_add (pe_ix ix_list (pv 0) pe_int (fun _ _ => rfl)) pe_int) (pg_sub (pv 0) pe_int set_list))
    (pss_cons (ps_asg (pe_op op_modN (pe_callTy call_int1 (by rfl) T.z_int (by decide +kernel) (pa_cons (pe_op op_add (pe_op op_add (pe_op op_mul (pe_ix ix_list (pv 0) pe_int (fun _ _ => rfl)) pe_int) (pe_op op_modN (pe_callTy call_int1 (by rfl) T.z_int (by decide +kernel) (pa_cons (pv 2) pa_nil)) pe_int)) (pe_ix ix_list (pv 0) pe_int (fun _ _ => rfl))) pa_nil)) pe_int) (pg_sub (pv 0) pe_int set_list))
    (pss_one (ps_asg (pe_ifExp (pt_cmpR op_ge (pv 2) (pe_op op_pow pe_int pe_int) (nomark _)) (pv 2) pe_int) (pg_sub (pv 0) pe_int set_list))))))
    pss_nil)
  (pss_cons (ps_if (pt_cmpR op_gt (pe_ix ix_list (pv 0) pe_int (fun _ _ => rfl)) pe_int (nomark _))
    (pss_cons (ps_set (i := 3) sc__law_draw.nd rfl (Or.inl rfl) (pe_op op_modN (pe_callTy call_int1 (by rfl) T.z_int (by decide +kernel) (pa_cons (pe_ix ix_list (pv 0) pe_int (fun _ _ => rfl)) pa_nil)) (pv 1)))
    (pss_cons (ps_asg (pe_op op_fdivN (pe_callTy call_int1 (by rfl) T.z_int (by decide +kernel) (pa_cons (pe_ix ix_list (pv 0) pe_int (fun _ _ => rfl)) pa_nil)) (pv 1)) (pg_sub (pv 0) pe_int set_list))
    (pss_one (ps_ret (pv 3)))))
    pss_nil)
  (pss_cons (ps_set (i := 4) sc__law_draw.nd rfl (Or.inl rfl) (pe_op op_modN (pe_callTy call_int1 (by rfl) T.z_int (by decide +kernel) (pa_cons (pe_op op_add (pe_ix ix_list (pv 0) pe_int (fun _ _ => rfl)) (pe_op op_mul (pe_ix ix_list (pv 0) pe_int (fun _ _ => rfl)) pe_int)) pa_nil)) pe_int))
  (pss_cons (ps_asg (pe_op op_modN (pe_callTy call_int1 (by rfl) T.z_int (by decide +kernel) (pa_cons (pe_op op_add (pe_op op_add (pe_op op_mul (pv 4) (pv 4)) (pe_op op_mul (pv 4) pe_int)) pe_int) pa_nil)) pe_int) (pg_sub (pv 0) pe_int set_list))
  (pss_one (ps_ret (pe_op op_modN (pe_callTy call_int1 (by rfl) T.z_int (by decide +kernel) (pa_cons (pe_op op_add (pe_op op_fdivN (pe_ix ix_list (pv 0) pe_int (fun _ _ => rfl)) pe_int) (pe_op op_mul (pe_op op_modN (pe_callTy call_int1 (by rfl) T.z_int (by decide +kernel) (pa_cons (pe_ix ix_list (pv 0) pe_int (fun _ _ => rfl)) pa_nil)) pe_int) pe_int)) pa_nil)) (pv 1))))))))), ?_⟩
  refine ⟨_, rfl, _, _, _, _, rfl, rfl, .inl (.inl ha), atI_nat (j := 4) rfl, _, _, rfl, rfl, _, rfl, _, _, _, _, rfl, rfl, ha, rfl, ?_⟩
  refine ⟨fun σ' H' => ∃ (x2 : Option V) (i g m n : Int), σ' = [some (.ref a), some (.int k), x2, none, none] ∧ 0 ≤ i ∧ i ≤ (ns.length : Int) ∧ 0 ≤ m ∧ m < 2147483629 ∧
    H' a = some (.lst [.ref l, .int i, .int g, .int m, .int n]) ∧ ∀ ys, upd H' a (.lst ys) = upd H a (.lst ys), ?_, fun σ' H' hm => ?_⟩
  · have hl1 : upd H a (.lst [.ref l, .int i, .int g, .int m, .int (n + 1)]) l = some (.lst (ns.map V.int)) := by rw [upd_ne la]; exact hl
    refine ⟨_, rfl, _, _, _, _, rfl, rfl, .inl (.inl upd_same), atI_nat (j := 2) rfl, _, _, rfl, rfl, _, rfl, ?_⟩
    refine ite2 (fun _ => ?_) (fun _ => iteF ⟨none, i, g, m, n + 1, rfl, i0, i1, m0, m1, upd_same, fun ys => upd_upd⟩)
    refine ⟨_, rfl, _, _, _, _, rfl, rfl, .inl (.inl upd_same), atI_nat (j := 1) rfl, _, rfl, _, _, _, _, rfl, rfl, .inl (.inl upd_same), atI_nat (j := 0) rfl, l, ns.map V.int, rfl, .inl (.inl (.inl hl1)), _, _, rfl, rfl, _, rfl, ?_⟩
    refine ite2 (fun c => ?_) (fun _ => ⟨none, i, g, m, n + 1, rfl, i0, i1, m0, m1, upd_same, fun ys => upd_upd⟩)
    have c1 : i < ((ns.map V.int).length : Int) := of_decide_eq_true c
    rw [List.length_map] at c1
    have hi : i.toNat < ns.length := by omega
    have ei : i = ((i.toNat : Nat) : Int) := by omega
    have at1 : atI (ns.map V.int) i = some (.int ns[i.toNat]) := by
      have z : atI (ns.map V.int) ((i.toNat : Nat) : Int) = some (.int ns[i.toNat]) := atI_nat (by rw [List.getElem?_map, List.getElem?_eq_getElem hi] <;> rfl)
      rw [← ei] at z
      exact z
    generalize ns[i.toNat] = cell at at1
    refine ⟨_, rfl, _, _, _, _, rfl, rfl, .inl (.inl upd_same), atI_nat (j := 0) rfl, _, rfl, _, _, _, _, rfl, rfl, .inl (.inl upd_same), atI_nat (j := 1) rfl, l, _, _, _, rfl, rfl, .inl (.inl hl1), at1, ?_⟩
    refine ⟨_, rfl, _, _, _, _, rfl, rfl, .inl (.inl upd_same), atI_nat (j := 1) rfl, _, _, rfl, rfl, _, rfl, _, _, _, _, rfl, rfl, upd_same, rfl, ?_⟩
    refine ⟨_, rfl, _, _, _, _, rfl, rfl, .inl (.inl upd_same), atI_nat (j := 3) rfl, _, _, rfl, rfl, .inr ⟨by decide, by decide⟩, _, rfl, .inl ⟨_, rfl, _, _, rfl, rfl, (by show (2147483497 : Int) ≠ 0; decide), _, _, rfl, rfl, _, rfl, _, _, _, _, rfl, rfl, .inl (.inl upd_same), atI_nat (j := 1) rfl, _, _, rfl, rfl, .inl ⟨_, rfl, _, _, rfl, rfl, (by show (2147483549 : Int) ≠ 0; decide), ?_⟩⟩⟩
    refine ⟨_, rfl, _, _, _, _, rfl, rfl, upd_same, rfl, ?_⟩
    refine ⟨_, rfl, _, _, rfl, rfl, ⟨by decide, by decide, by decide⟩, _, _, rfl, rfl, _, rfl, ?_⟩
    have m1' : ∀ x : Int, x.fmod 2147483549 < 2147483629 := fun x => Int.lt_trans (fmod_hi x (by decide)) (by decide)
    refine ite2 (fun _ => ?_) (fun _ => ?_)
    · refine ⟨_, rfl, _, rfl, _, _, _, _, rfl, rfl, upd_same, rfl, some (.int cell), i + 1, cell, _, n + 1, rfl, by omega, by omega, fmod_lo _ (by decide), m1' _, upd_same, fun ys => ?_⟩
      rw [upd_upd, upd_upd, upd_upd, upd_upd]
    · refine ⟨_, rfl, _, _, _, _, rfl, rfl, upd_same, rfl, some (.int cell), i + 1, 0, _, n + 1, rfl, by omega, by omega, fmod_lo _ (by decide), m1' _, upd_same, fun ys => ?_⟩
      rw [upd_upd, upd_upd, upd_upd, upd_upd]
  · obtain ⟨x2, i, g, m, n, rfl, i0, i1, m0, m1, hb, hz⟩ := hm
    refine ⟨_, rfl, _, _, _, _, rfl, rfl, .inl (.inl hb), atI_nat (j := 2) rfl, _, _, rfl, rfl, _, rfl, ?_⟩
    refine ite2 (fun c => ?_) (fun _ => ?_)
    · -- the rest of a great one
      refine ⟨_, rfl, _, _, _, _, rfl, rfl, .inl (.inl hb), atI_nat (j := 2) rfl, .inl ⟨_, rfl, _, rfl, _, _, rfl, rfl, (by show k ≠ 0; omega), ?_⟩⟩
      refine ⟨_, rfl, _, _, _, _, rfl, rfl, .inl (.inl hb), atI_nat (j := 2) rfl, .inl ⟨_, rfl, _, rfl, _, _, rfl, rfl, ⟨by omega, by omega⟩, ?_⟩⟩
      refine ⟨_, rfl, _, _, _, _, rfl, rfl, hb, rfl, _, rfl, ?_⟩
      rw [hz]
      exact q _ _ (fmod_lo _ k0) (fmod_hi _ k0) ⟨i, _, m, n, rfl, i0, i1, m0, m1⟩
    · refine ⟨_, rfl, _, _, _, _, rfl, rfl, .inl (.inl hb), atI_nat (j := 3) rfl, _, rfl, _, _, _, _, rfl, rfl, .inl (.inl hb), atI_nat (j := 4) rfl, _, _, rfl, rfl, .inr ⟨by decide, by decide⟩, _, _, rfl, rfl, .inl ⟨_, rfl, _, _, rfl, rfl, (by show (2147483549 : Int) ≠ 0; decide), ?_⟩⟩
      have s0 : 0 ≤ (m + n * 9967).fmod 2147483549 := fmod_lo _ (by decide)
      have s1 : (m + n * 9967).fmod 2147483549 < 2147483549 := fmod_hi _ (by decide)
      refine ⟨_, rfl, _, rfl, _, _, rfl, rfl, .inl ⟨Int.lt_of_lt_of_le (by decide) s0, Int.lt_trans s1 (by decide)⟩, _, rfl, _, _, rfl, rfl, .inr ⟨by decide, by decide⟩, _, _, rfl, rfl, _, _, rfl, rfl, .inl ⟨_, rfl, _, _, rfl, rfl, (by show (2147483549 : Int) ≠ 0; decide), ?_⟩⟩
      refine ⟨_, rfl, _, _, _, _, rfl, rfl, hb, rfl, ?_⟩
      refine ⟨_, rfl, _, _, _, _, rfl, rfl, .inl (.inl upd_same), atI_nat (j := 3) rfl, _, _, rfl, rfl, ⟨by decide, by decide⟩, _, rfl, _, _, _, _, rfl, rfl, .inl (.inl upd_same), atI_nat (j := 3) rfl, .inl ⟨_, rfl, _, _, rfl, rfl, (by show (6151 : Int) ≠ 0; decide), _, _, rfl, rfl, .inr ⟨by decide, by decide⟩, _, _, rfl, rfl, .inl ⟨_, rfl, _, rfl, _, _, rfl, rfl, (by show k ≠ 0; omega), ?_⟩⟩⟩
      rw [hz]
      exact q _ _ (fmod_lo _ k0) (fmod_hi _ k0) ⟨i, g, _, n, rfl, i0, i1, fmod_lo _ (by decide), Int.lt_trans (fmod_hi _ (by decide)) (by decide)⟩
theorem ok_draw : FnOk P w K mg base CX0 1 T.f__law_draw T.d__law_draw ["_law_box", "_law_many"] spDraw := draw_sealed (ok_draw0 T) rfl
theorem ok_begin0 : FnOk P w K mg base CX0 1 T.f__law_begin T.d__law_begin ["_law_script"] (spBag0 K) := by
  refine T.F__law_begin.ok sc__law_begin (fun vs H Q E h => ?_) (fun cdv A outer s H vs Q E hr h => ?_)
  · obtain ⟨a, ns, rfl, _⟩ := h
    rfl
  obtain ⟨a, ns, rfl, hs, hn, q⟩ := h
  refine ⟨_, (pss_cons (ps_setLc (i := 1) (own := [("_law_cell", 2)]) (g := gName 2) (by rfl) sc__law_begin.nd rfl rfl (sw_true rfl rfl rfl (by decide +kernel)) (pi_list (pe_slice sl_list (pv 0) po_none (po_some pe_int))) (blkOk_by (own := [("_law_cell", 2)]) (N := N__law_begin) (sc := defScope s__law_begin) (by decide +kernel)) (fun _ _ _ _ _ => (pg_name (i := 2) sc__law_begin.nd rfl (Or.inl rfl))) (fun _ _ _ _ _ => pts_nil) (fun _ _ _ _ _ => (pe_callTy call_int1 (by rfl) T.z_int (by decide +kernel) (pa_cons (pv 2) pa_nil))))
  (pss_cons (ps_set (i := 3) sc__law_begin.nd rfl (Or.inl rfl) (pe_op op_add pe_int (pe_op op_mul pe_int (pe_callB call_len_seq (by rfl) T.z_len (by decide +kernel) (pa_cons (pv 1) pa_nil)))))
  (pss_cons (ps_for PassesOwn.never rfl (pi_list (pv 1)) (pg_name (i := 2) sc__law_begin.nd rfl (Or.inl rfl))
    (pss_one (ps_set (i := 3) sc__law_begin.nd rfl (Or.inl rfl) (pe_op op_modN (pe_callTy call_int1 (by rfl) T.z_int (by decide +kernel) (pa_cons (pe_op op_add (pe_op op_mul (pv 3) pe_int) (pv 2)) pa_nil)) pe_int))))
  (pss_one (ps_ret (pe_lst (pa_cons (pv 1) (pa_cons pe_int (pa_cons pe_int (pa_cons (pv 3) (pa_cons pe_int pa_nil))))))))))), ?_⟩
  obtain ⟨ms, em, hm⟩ := cut_map ns none (some 63)
  have hm63 : ms.length ≤ 63 := by omega
  refine ⟨_, rfl, 63, rfl, a, _, rfl, hs, fun p np => ?_⟩
  rw [em]
  have s1 := same_new np (.lst (ms.map V.int))
  refine ⟨p, rfl, ⟨_, .inl (.inl upd_same)⟩, fun D nD => ?_⟩
  refine lc_gen (walk_list (K := K) (a := p) (xs := ms.map V.int)) (fun i => (ms[i]?).bind fun c => some (.int c)) (by rw [List.length_map]; unfold sizeLine; omega) nD (fun H' s => .inl (.inl (s _ _ upd_same))) ?_ ?_
  · rintro i x H2 H3 R Rn hi sm ⟨rfl, hx⟩ hy hn'
    rw [List.getElem?_map] at hx
    obtain ⟨c, hc, rfl⟩ := Option.map_eq_some_iff.mp hx
    refine ⟨rfl, ?_⟩
    exact ⟨_, rfl, .inl ⟨_, rfl, hy _ (by rw [hc] <;> rfl) _ (Same.refl _)⟩⟩
  intro H2 s2 d2
  rw [List.length_map, range_all, filterMap_some] at d2
  have s12 := s1.trans s2
  refine ⟨_, rfl, D, ms.map V.int, rfl, .inl (.inl (.inl d2)), _, _, rfl, rfl, .inl ⟨by decide, by decide⟩, _, _, rfl, rfl, ?_⟩
  refine ⟨_, rfl, D, rfl, ⟨ms.map V.int, .inl (.inl d2)⟩, ?_⟩
  refine for_list (K := K) (a := D) (xs := ms.map V.int) (fun _ σ H' => ∃ (m : Int) (x : Option V), σ = [some (.ref a), some (.ref D), x, some (.int m)] ∧ 0 ≤ m ∧ m < 2147483629 ∧ H' = H2) ⟨_, none, rfl, ?_, ?_, rfl⟩ ?_ ?_ ?_
  · show (0 : Int) ≤ 1202803 + 97 * ((ms.map V.int).length : Int)
    rw [List.length_map]
    omega
  · show (1202803 : Int) + 97 * ((ms.map V.int).length : Int) < 2147483629
    rw [List.length_map]
    omega
  · rintro i σ H' _ ⟨m, x, _, _, _, rfl⟩
    exact .inl (.inl d2)
  · rintro i v σ H' hv ⟨m, x, rfl, m0, m1, rfl⟩
    rw [List.getElem?_map] at hv
    obtain ⟨c, hc, rfl⟩ := Option.map_eq_some_iff.mp hv
    refine ⟨_, rfl, _, _, rfl, rfl, .inr ⟨by decide, by decide⟩, _, rfl, _, _, rfl, rfl, .inl ⟨_, rfl, _, _, rfl, rfl, (by show (2147483549 : Int) ≠ 0; decide), ?_⟩⟩
    exact ⟨_, _, rfl, fmod_lo _ (by decide), Int.lt_trans (fmod_hi _ (by decide)) (by decide), rfl⟩
  · rintro σ H' ⟨m, x, rfl, m0, m1, rfl⟩
    refine ⟨_, rfl, _, rfl, (by show 5 ≤ sizeLine; decide), fun b nb => ?_⟩
    have s4 := same_new nb (.lst [.ref D, .int 0, .int 0, .int m, .int 0])
    have lb : D ≠ b := fun e => by
      rw [← e, d2] at nb
      cases nb
    exact q _ b D ms _ (s12.trans s4) (s12.free nb) (s4 _ _ d2) hm63 upd_same ⟨0, 0, m, 0, rfl, by omega, by omega, m0, m1⟩ lb
theorem ok_begin : FnOk P w K mg base CX0 1 T.f__law_begin T.d__law_begin ["_law_script"] (spBag K) := bag_sealed (ok_begin0 T) rfl
end
end Kx
/-! part DL31 -/
namespace DL
open PySem PySem.Spec PyProof.Rows L2 My
/-! ### x, y = e, e -/
section
variable {S : Type}
def wPar (i j : Nat) (w : WA S) : WS S := ⟨fun τ k => w.f τ fun ds τ1 => match ds with
    | [d, e] => i < τ1.1.length ∧ j < τ1.1.length ∧ k .nx ((τ1.1.set i (.dat d)).set j (.dat e), τ1.2)
    | _ => False, fun τ k k' m h => w.mono _ _ _ (fun ds τ1 h1 => by
  revert h1
  split
  · exact fun h => ⟨h.1, h.2.1, m _ _ h.2.2⟩
  · exact id) h⟩
def wPar3 (i j l : Nat) (w : WA S) : WS S := ⟨fun τ k => w.f τ fun ds τ1 => match ds with
    | [d, e, f] => i < τ1.1.length ∧ j < τ1.1.length ∧ l < τ1.1.length ∧ k .nx (((τ1.1.set i (.dat d)).set j (.dat e)).set l (.dat f), τ1.2)
    | _ => False, fun τ k k' m h => w.mono _ _ _ (fun ds τ1 h1 => by
  revert h1
  split
  · exact fun h => ⟨h.1, h.2.1, h.2.2.1, m _ _ h.2.2.2⟩
  · exact id) h⟩
/-- x, y = e, [] -/
def wParL (i j : Nat) (w : WE S) : WS S := ⟨fun τ k => w.f τ fun d τ1 => i < τ1.1.length ∧ j < τ1.1.length ∧ k .nx ((τ1.1.set i (.dat d)).set j (.own (.lst [])), τ1.2), fun τ k k' m h => w.mono _ _ _ (fun d τ1 h1 => ⟨h1.1, h1.2.1, m _ _ h1.2.2⟩) h⟩
variable {X : Cx} {K : PySem.W.Frag} {A : Am S} {i j l : Nat} {x y z : Str} {a b c : Expr} {px py pz pt pos lp : Pos} {kt k2 pt2} {w : WA S} {we : WE S}
theorem s_par (hc : X.calm = true) (hN : X.N.Nodup) (hi : X.N[i]? = some x) (hj : X.N[j]? = some y) (hij : i ≠ j)
    (hx : X.env.scope.names.lookup x = some .local) (hy : X.env.scope.names.lookup y = some .local) (ha : PA X [a, b] (tAs K A w))
    (hw : swappedStores [.Tuple [.Name x px, .Name y py] kt pt] (.Tuple [a, b] k2 pt2) X.env = pure (some [x, y]))
    (hs : swapsWithSole [.Tuple [.Name x px, .Name y py] kt pt] (.Tuple [a, b] k2 pt2) pos.line X.env = pure false := by rfl) :
    PS X (.Assign [.Tuple [.Name x px, .Name y py] kt pt] (.Tuple [a, b] k2 pt2) pos) (tS K A (wPar i j w)) :=
  PS.imp (ps_par hc hN hi hj hij hx hy ha hw hs) fun D σ H ⟨F, H0, O, τ, s0, q⟩ => bindA s0 q fun H1 vs O1 ds τ1 s1 k1 x1 q1 => by
    split at q1
    · rename_i d e
      obtain ⟨l1, l2, q1⟩ := q1
      cases x1 with
      | @cons u _ _ _ xu x1 =>
      cases x1 with
      | @cons v _ _ _ xv x1 =>
      cases x1
      have li : i < σ.length := by rw [← s1.len]; exact l1
      have lj : j < (σ.set i (some u)).length := by rw [List.length_set, ← s1.len]; exact l2
      have s3 := s1.setDat li xu
      have k3 := s1.setKeep i (.dat d) fun ds z => nomatch z
      have s4 := s3.setDat lj (xv.same k3)
      have k4 := s3.setKeep j (.dat e) fun ds z => nomatch z
      exact ⟨u, v, rfl, q1 _ _ O1 s4 (k1.trans (k3.trans k4))⟩
    · exact q1.elim
theorem s_par3 (hc : X.calm = true) (hN : X.N.Nodup) (hi : X.N[i]? = some x) (hj : X.N[j]? = some y) (hl : X.N[l]? = some z) (hij : i ≠ j) (hil : i ≠ l) (hjl : j ≠ l)
    (hx : X.env.scope.names.lookup x = some .local) (hy : X.env.scope.names.lookup y = some .local) (hz : X.env.scope.names.lookup z = some .local) (ha : PA X [a, b, c] (tAs K A w))
    (hw : swappedStores [.Tuple [.Name x px, .Name y py, .Name z pz] kt pt] (.Tuple [a, b, c] k2 pt2) X.env = pure (some [x, y, z]))
    (hs : swapsWithSole [.Tuple [.Name x px, .Name y py, .Name z pz] kt pt] (.Tuple [a, b, c] k2 pt2) pos.line X.env = pure false := by rfl) :
    PS X (.Assign [.Tuple [.Name x px, .Name y py, .Name z pz] kt pt] (.Tuple [a, b, c] k2 pt2) pos) (tS K A (wPar3 i j l w)) :=
  PS.imp (ps_par3 hc hN hi hj hl hij hil hjl hx hy hz ha hw hs) fun D σ H ⟨F, H0, O, τ, s0, q⟩ => bindA s0 q fun H1 vs O1 ds τ1 s1 k1 x1 q1 => by
    split at q1
    · rename_i d e f
      obtain ⟨l1, l2, l3, q1⟩ := q1
      cases x1 with
      | @cons u _ _ _ xu x1 =>
      cases x1 with
      | @cons v _ _ _ xv x1 =>
      cases x1 with
      | @cons t _ _ _ xt x1 =>
      cases x1
      have li : i < σ.length := by rw [← s1.len]; exact l1
      have lj : j < (σ.set i (some u)).length := by rw [List.length_set, ← s1.len]; exact l2
      have ll : l < ((σ.set i (some u)).set j (some v)).length := by rw [List.length_set, List.length_set, ← s1.len]; exact l3
      have s3 := s1.setDat li xu
      have k3 := s1.setKeep i (.dat d) fun ds z => nomatch z
      have s4 := s3.setDat lj (xv.same k3)
      have k4 := s3.setKeep j (.dat e) fun ds z => nomatch z
      have s5 := s4.setDat ll ((xt.same k3).same k4)
      have k5 := s4.setKeep l (.dat f) fun ds z => nomatch z
      exact ⟨u, v, t, rfl, q1 _ _ O1 s5 (k1.trans (k3.trans (k4.trans k5)))⟩
    · exact q1.elim
theorem s_parL (hc : X.calm = true) (hN : X.N.Nodup) (hi : X.N[i]? = some x) (hj : X.N[j]? = some y) (hij : i ≠ j)
    (hx : X.env.scope.names.lookup x = some .local) (hy : X.env.scope.names.lookup y = some .local) (ha : PE X a (tE K A we))
    (hw : swappedStores [.Tuple [.Name x px, .Name y py] kt pt] (.Tuple [a, .List [] lp] k2 pt2) X.env = pure (some [x, y]))
    (hs : swapsWithSole [.Tuple [.Name x px, .Name y py] kt pt] (.Tuple [a, .List [] lp] k2 pt2) pos.line X.env = pure false := by rfl)
    (h1 : starEach (a :: [.List [] lp]) X.env = (false, eval a X.env) :: starEach [.List [] lp] X.env := by rfl) (h2 : starEach [.List [] lp] X.env = (false, eval (.List [] lp) X.env) :: starEach [] X.env := by rfl) :
    PS X (.Assign [.Tuple [.Name x px, .Name y py] kt pt] (.Tuple [a, .List [] lp] k2 pt2) pos) (tS K A (wParL i j we)) :=
  PS.imp (ps_par hc hN hi hj hij hx hy (pa_cons ha (pa_cons (pe_lst pa_nil) pa_nil h2) h1) hw hs) fun D σ H ⟨F, H0, O, τ, s0, q⟩ => bindE s0 q fun H1 u O1 d τ1 s1 k1 x1 ⟨l1, l2, q1⟩ => by
    refine ⟨Nat.zero_le _, fun p np => ⟨u, _, rfl, ?_⟩⟩
    have li : i < σ.length := by rw [← s1.len]; exact l1
    have lj : j < (σ.set i (some u)).length := by rw [List.length_set, ← s1.len]; exact l2
    have s3 := s1.setDat li x1
    have k3 := s1.setKeep i (.dat d) fun ds z => nomatch z
    obtain ⟨s4, k4⟩ := s3.setOwn' lj np (.lst (Nat.zero_le _) .nil)
    exact q1 _ _ _ s4 (k1.trans (k3.trans k4))
end
/-! ### single operations -/
def gInt1 : List Dt → Option Dt
  | [.int i] => some (.int i)
  | _ => none
theorem o_int1 {K : PySem.W.Frag} : OpN K (fun xs H Q => (∃ i, xs = [.int i] ∧ Q (.int i) H) ∨ ∃ k, xs = [.bl k] ∧ Q (.int (if k then 1 else 0)) H) gInt1 := fun P xs ds c H Q nP hx h q => by
  match ds, h with
  | [.int i], h =>
    cases h
    cases hx with
    | cons a b =>
      cases b
      cases a
      exact .inl ⟨i, rfl, q H _ (Same.refl H) (.int i)⟩
def gMod : Dt → Dt → Option Dt
  | .int i, .int j => if j = 0 then none else some (.int (i.fmod j))
  | _, _ => none
theorem o_mod {K : PySem.W.Frag} : Op2 K (rI (fun _ j => j ≠ 0) fun i j => .int (i.fmod j)) gMod := fun P x y d e c H Q nP hx hy h q => by
  cases d <;> cases e <;> first
    | (cases h; done)
    | skip
  rename_i i j
  have h : (if j = 0 then none else some (Dt.int (i.fmod j))) = some c := h
  by_cases z : j = 0
  · rw [if_pos z] at h; cases h
  · rw [if_neg z] at h
    cases h
    cases hx
    cases hy
    exact ⟨_, _, rfl, rfl, z, q H _ (Same.refl H) (.int _)⟩
theorem o_gt {K : PySem.W.Frag} : Op2 K (rI0 fun i j => .bl (decide (j < i))) (gI fun i j => .bl (decide (j < i))) := o_I fun _ _ _ => .bl _
theorem o_lt {K : PySem.W.Frag} : Op2 K (rI0 fun i j => .bl (decide (i < j))) (gI fun i j => .bl (decide (i < j))) := o_I fun _ _ _ => .bl _
/-! ### the bag -/
abbrev bagS : Stab := ⟨IsBag, fun _ _ _ s h => h.same s⟩
abbrev Dt.bag : Dt := .sp bagS
theorem DX.bagI {K : PySem.W.Frag} {H : Hp} {v : V} (x : DX K H v .bag) : ∃ a, v = .ref a ∧ IsBag H a := by
  cases x with
  | sp h => exact ⟨_, rfl, h⟩
/-- a draw: any number below -/
def wfDraw : WF Unit := ⟨fun ds s k => ∃ m : Int, ds = [.bag, .int m] ∧ 0 < m ∧ m < 1073741824 ∧ ∀ d : Int, 0 ≤ d → d < m → k (.rt (.int d)) s, fun ds s k k' m ⟨n, a, b, c, h⟩ => ⟨n, a, b, c, fun d h1 h2 => m _ _ (h d h1 h2)⟩⟩
theorem draw_data {K : PySem.W.Frag} {vs : List V} {H : Hp} {Q : VK} {E : XK} (h : spD K Am.none 2 wfDraw vs H Q E) : spDraw vs H Q E := by
  obtain ⟨F, s, ds, l, _, _, _, x, n, rfl, h0, h1, q⟩ := h
  cases x with
  | @cons v _ _ _ x1 x2 =>
  cases x2 with
  | @cons u _ _ _ x3 x4 =>
  cases x4
  obtain ⟨a, rfl, hb⟩ := x1.bagI
  obtain rfl := x3.intI
  exact ⟨a, n, rfl, hb.same hidP_less, h0, h1, fun d d0 d1 => q d d0 d1 H (.int d) trivial (fun _ _ e _ _ => e) (.int d)⟩
/-! ### l[:n] of a list -/
def gTake : Dt → Dt → Option Dt
  | .lst ds, .int i => if 0 ≤ i then some (.lst (ds.take i.toNat)) else none
  | _, _ => none
theorem cut_upto (vs : List V) (i : Int) (h : 0 ≤ i) : cutV vs none (some i) = vs.take i.toNat := by
  unfold cutV
  have e1 : HT.sIx vs.length 0 none = 0 := rfl
  have e2 : vs.take (HT.sIx vs.length vs.length (some i)) = vs.take i.toNat := by
    simp only [HT.sIx]
    split
    · omega
    · by_cases l : i.toNat ≤ vs.length
      · congr 1
        omega
      · rw [List.take_of_length_le (by omega), List.take_of_length_le (by omega)]
  rw [e1, Nat.sub_zero, List.drop_zero, e2]
section
variable {S : Type} {X : Cx} {K : PySem.W.Frag} {A : Am S} {e hi : Expr} {pos p2 : Pos} {w wh : WE S}
theorem d_upto (he : PE X e (tE K A w)) (hn : PE X hi (tE K A wh)) (hK : X.K = K := by rfl) : PE X (.Subscript e (.Slice none (some hi) none p2) pos) (tE K A (wO2 gTake w wh)) := by
  subst hK
  refine PE.imp (pe_slice sl_list he po_none (po_some hn)) fun σ H Q ⟨F, H0, O, τ, st, q⟩ => bindE st q fun H1 v O1 d τ1 s1 k1 x1 q1 => bindE s1 q1 fun H2 u O2 d2 τ2 s2 k2 x2 q2 => ?_
  obtain ⟨c, hc, q3⟩ := some_of q2
  cases d with
  | lst ds =>
    cases d2 with
    | int i =>
      have hc : (if 0 ≤ i then some (Dt.lst (ds.take i.toNat)) else none) = some c := hc
      by_cases h : 0 ≤ i
      · rw [if_pos h] at hc
        cases hc
        obtain rfl := x2.intI
        obtain ⟨a, vs, rfl, g1, g2, g3⟩ := (x1.same k2).lstI
        refine ⟨i, rfl, a, vs, rfl, hidL g1, fun r nr => ?_⟩
        rw [cut_upto vs i h]
        have sm := same_new nr (.lst (vs.take i.toNat))
        have sh : Same (hidP (hidn F O2 τ2.1) H2) (hidP (hidn F O2 τ2.1) (upd H2 r (.lst (vs.take i.toNat)))) := hidP_same fun b o e _ n => ⟨n, sm b o e⟩
        exact q3 _ _ O2 (s2.grow sm) (k1.trans (k2.trans sh)) (.lst (hidP_mk (s2.fresh nr) upd_same fun ps z => nomatch z) (by rw [List.length_take]; omega) ((g3.take i.toNat).same sh))
      · rw [if_neg h] at hc
        cases hc
    | _ => cases hc
  | _ => cases hc
end
end DL
/-! part K41q -/
namespace Kx
open PySem PySem.Spec PyProof.Rows L2 My DL
theorem iteB {b : Bool} {A B : Prop} (h1 : b = true → A) (h2 : b = false → B) : if b = true then A else B := by
  cases b with
  | true => exact h1 rfl
  | false => exact h2 rfl
/-- drawn terms, of a depth -/
inductive Dr : Nat → Tr → Prop
  | num {m : Nat} (i : Int) : Dr m (.leaf (.int i))
  | use {m : Nat} (i : Id') : Dr m (.leaf (.tup [.str "use", idt i]))
  | op {m : Nat} {z : Str} {l r : Tr} : z ∈ signs → Dr m l → Dr m r → Dr (m + 1) (.op z l r)
theorem Dr.ok : ∀ {m : Nat} {t : Tr}, Dr m t → t.ok = true
  | _, _, .num i => rfl
  | _, _, .use i => rfl
  | _, _, .op hz hl hr => by
    show (signs.contains _ && (Tr.ok _ && Tr.ok _)) = true
    rw [hl.ok, hr.ok, List.contains_iff_mem.mpr hz]
    rfl
theorem Dr.size : ∀ {m : Nat} {t : Tr}, Dr m t → t.size + 1 ≤ 2 ^ (m + 1)
  | m, _, .num i => by
    show 2 ≤ 2 ^ (m + 1)
    exact Nat.le_self_pow (by omega) 2
  | m, _, .use i => by
    show 2 ≤ 2 ^ (m + 1)
    exact Nat.le_self_pow (by omega) 2
  | m + 1, _, .op (l := l) (r := r) hz hl hr => by
    have h1 := hl.size
    have h2 := hr.size
    show l.size + r.size + 1 + 1 ≤ 2 ^ (m + 1 + 1)
    rw [Nat.pow_succ]
    omega
/-- drawn sketches -/
inductive SkD : Rw → Prop
  | let_ {nm : Str} {t : Tr} : Dr 4 t → SkD (.let_ (.str nm) t)
  | set_ {i : Id'} {t : Tr} : Dr 3 t → SkD (.set_ (idt i) t)
  | do_ {i : Id'} {es : List Tr} : (∀ e ∈ es, Dr 2 e) → es.length ≤ 3 → SkD (.do_ (idt i) es)
  | def_ {nm : Str} {ls : List Str} : ls.length ≤ 5 → SkD (.def_ (.str nm) (ls.map Dt.str) [])
  | read_ {i : Id'} : SkD (.read_ (idt i))
  | out_ {t : Tr} : Dr 3 t → SkD (.out_ t)
  | if_ {t : Tr} : Dr 3 t → SkD (.if_ t [] [])
  | rep_ {t : Tr} : Dr 3 t → SkD (.rep_ t [])
  | blk_ : SkD (.blk_ [])
theorem Dr.up : ∀ {m : Nat} {t : Tr}, Dr m t → Dr (m + 1) t
  | _, _, .num i => .num i
  | _, _, .use i => .use i
  | _, _, .op hz hl hr => .op hz hl.up hr.up
def wfPick : WF Unit := ⟨fun ds s k => ∃ row : List Dt, ds = [.bag, .lst row] ∧ 0 < row.length ∧ row.length ≤ 1000000 ∧ ∀ d ∈ row, k (.rt d) s, fun ds s k k' m ⟨n, a, b, c, h⟩ => ⟨n, a, b, c, fun d hd => m _ _ (h d hd)⟩⟩
def wfVal : WF Unit := ⟨fun ds s k => ds = [.bag] ∧ ∀ i : Int, k (.rt (.int i)) s, fun ds s k k' m ⟨a, h⟩ => ⟨a, fun d => m _ _ (h d)⟩⟩
def wfAid : WF Unit := ⟨fun ds s k => ds = [.bag] ∧ ∀ i : Id', k (.rt (idt i)) s, fun ds s k k' m ⟨a, h⟩ => ⟨a, fun d => m _ _ (h d)⟩⟩
def wfTerm (m : Nat) : WF Unit := ⟨fun ds s k => ds = [.bag, .int m] ∧ ∀ t : Tr, Dr m t → k (.rt t.dt) s, fun ds s k k' m ⟨a, h⟩ => ⟨a, fun d hd => m _ _ (h d hd)⟩⟩
def Rw.bend : Rw → Prop
  | .let_ _ t => Dr 3 t
  | _ => True
def wfSk : WF Unit := ⟨fun ds s k => ds = [.bag] ∧ ∀ row : Rw, SkD row → row.bend → k (.rt row.skd) s, fun ds s k k' m ⟨a, h⟩ => ⟨a, fun d hd hb => m _ _ (h d hd hb)⟩⟩
def wfNo : WF Unit := ⟨fun _ _ _ => False, fun _ _ _ _ _ h => h⟩
theorem fn_no {P : Program} {w : World} {K : PySem.W.Frag} {mg : Str → Option Value} {base : Heap} {k n : Nat} {f : Addr} {fd : FuncData} {ps : List Str} {A : Am Unit} : FnOk P w K mg base CX0 k f fd ps (spD K A n wfNo) :=
  ⟨fun vs H Q E ⟨_, _, _, _, _, _, _, _, h⟩ => h.elim, fun A outer s H args us vs Q E _ _ _ _ ⟨_, _, _, _, _, _, _, _, h⟩ => h.elim⟩
section
variable {P : Program} {w : World} {K : PySem.W.Frag} {mg : Str → Option Value} {base : Heap} (T : Tx K mg)
theorem dd_draw : FnOk P w K mg base CX0 1 T.f__law_draw T.d__law_draw ["_law_box", "_law_many"] (spD K Am.none 2 wfDraw) := (ok_draw T).imp fun _ _ _ _ h => draw_data h
theorem ok_pick : FnOk P w K mg base CX0 2 T.f__law_pick T.d__law_pick ["_law_box", "_law_row"] (spD K Am.none 2 wfPick) := by
  have G__law_draw := dd_draw (P := P) (w := w) (base := base) T
  refine T.F__law_pick.ok sc__law_pick (spD_len rfl) (fun cdv A outer s H vs Q E hr h => ?_)
  refine d_body (m := 0) h rfl (s_one (s_ret (d_ix ix_seq o_ix (d_var (pv 1)) (d_call (Lens.none Am.none) G__law_draw (hr.mono (by decide)) (by rfl) T.g__law_draw T.F__law_draw.kp T.b__law_draw (a_cons (d_var (pv 0)) (a_cons (d_callB call_len_seq o_len (by rfl) T.z_len (by decide +kernel) (a_cons (d_var (pv 1)) a_nil)) a_nil)) rfl (la_cons (la_cons la_nil))) (fun _ _ => rfl)))) (fun ds s k hl hw => ?_)
  obtain ⟨row, rfl, h0, h1, q⟩ := hw
  refine ⟨(row.length : Int), rfl, by omega, by omega, fun d d0 d1 => ?_⟩
  have hd : d.toNat < row.length := by omega
  have ed : d = ((d.toNat : Nat) : Int) := by omega
  show optK (gIx (.lst row) (.int d)) _
  rw [ed]
  exact optK_is (gIx_lst (List.getElem?_eq_getElem hd)) (q _ (List.getElem_mem hd))
theorem ok_value : FnOk P w K mg base CX0 3 T.f__law_value T.d__law_value ["_law_box"] (spD K Am.none 1 wfVal) := by
  have G__law_draw := dd_draw (P := P) (w := w) (base := base) T
  have G__law_pick := ok_pick (P := P) (w := w) (base := base) T
  refine T.F__law_value.ok sc__law_value (spD_len rfl) (fun cdv A outer s H vs Q E hr h => ?_)
  refine d_body (m := 0) h rfl (s_one (s_ret (d_call (Lens.none Am.none) G__law_pick (hr.mono (by decide)) (by rfl) T.g__law_pick T.F__law_pick.kp T.b__law_pick (a_cons (d_var (pv 0)) (a_cons (d_new (n_lst (a_cons (d_int pe_int) (a_cons (d_int pe_int) (a_cons (d_int pe_int) (a_cons (d_int pe_int) (a_cons (d_int pe_int) (a_cons (d_call (Lens.none Am.none) G__law_draw (hr.mono (by decide)) (by rfl) T.g__law_draw T.F__law_draw.kp T.b__law_draw (a_cons (d_var (pv 0)) (a_cons (d_int pe_int) a_nil)) rfl (la_cons (la_cons la_nil))) a_nil)))))))) a_nil)) rfl (la_cons (la_cons la_nil))))) (fun ds s k hl hw => ?_)
  obtain ⟨rfl, q⟩ := hw
  refine ⟨1000, rfl, by decide, by decide, fun d d0 d1 => ⟨Nat.le_of_ble_eq_true rfl, [.int 0, .int 1, .int 2, .int 7, .int 999999, .int d], rfl, Nat.le_of_ble_eq_true rfl, Nat.le_of_ble_eq_true rfl, fun e he => ?_⟩⟩
  simp only [List.mem_cons, List.not_mem_nil, or_false] at he
  rcases he with rfl | rfl | rfl | rfl | rfl | rfl <;> exact q _
theorem ok_any_id : FnOk P w K mg base CX0 3 T.f__law_any_id T.d__law_any_id ["_law_box"] (spD K Am.none 1 wfAid) := by
  have G__law_draw := dd_draw (P := P) (w := w) (base := base) T
  have G__law_pick := ok_pick (P := P) (w := w) (base := base) T
  refine T.F__law_any_id.ok sc__law_any_id (spD_len rfl) (fun cdv A outer s H vs Q E hr h => ?_)
  refine d_body (m := 0) h rfl (s_one (s_ret (d_tup (a_cons (d_call (Lens.none Am.none) G__law_pick (hr.mono (by decide)) (by rfl) T.g__law_pick T.F__law_pick.kp T.b__law_pick (a_cons (d_var (pv 0)) (a_cons (d_new (n_lst (a_cons (d_str pe_str) (a_cons (d_str pe_str) (a_cons (d_str pe_str) a_nil))))) a_nil)) rfl (la_cons (la_cons la_nil))) (a_cons (d_call (Lens.none Am.none) G__law_draw (hr.mono (by decide)) (by rfl) T.g__law_draw T.F__law_draw.kp T.b__law_draw (a_cons (d_var (pv 0)) (a_cons (d_int pe_int) a_nil)) rfl (la_cons (la_cons la_nil))) a_nil))))) (fun ds s k hl hw => ?_)
  obtain ⟨rfl, q⟩ := hw
  refine ⟨Nat.le_of_ble_eq_true rfl, [.str "", .str "ann", .str "bob"], rfl, by decide, by decide, fun e he => ?_⟩
  simp only [List.mem_cons, List.not_mem_nil, or_false] at he
  rcases he with rfl | rfl | rfl <;> exact ⟨40, rfl, by decide, by decide, fun d d0 d1 => ⟨Nat.le_of_ble_eq_true rfl, q (_, d)⟩⟩
theorem any_term_step {n : Nat} {wfP : WF Unit} (hn : 3 ≤ n) (G__law_any_term : FnOk P w K mg base CX0 n T.f__law_any_term T.d__law_any_term ["_law_box", "_law_deep"] (spD K Am.none 2 wfP)) (m : Nat) (hm : 0 < m → wfP = wfTerm (m - 1)) :
    FnOk P w K mg base CX0 (n + 1) T.f__law_any_term T.d__law_any_term ["_law_box", "_law_deep"] (spD K Am.none 2 (wfTerm m)) := by
  have G__law_draw := dd_draw (P := P) (w := w) (base := base) T
  have G__law_pick := ok_pick (P := P) (w := w) (base := base) T
  have G__law_value := ok_value (P := P) (w := w) (base := base) T
  have G__law_any_id := ok_any_id (P := P) (w := w) (base := base) T
  refine T.F__law_any_term.ok sc__law_any_term (spD_len rfl) (fun cdv A outer s H vs Q E hr h => ?_)
  refine d_body (m := 1) h rfl (s_cons (s_set (i := 2) sc__law_any_term.nd rfl (Or.inl rfl) (d_call (Lens.none Am.none) G__law_draw (hr.mono (by omega)) (by rfl) T.g__law_draw T.F__law_draw.kp T.b__law_draw (a_cons (d_var (pv 0)) (a_cons (d_int pe_int) a_nil)) rfl (la_cons (la_cons la_nil))))
    (s_cons (s_if (PW.pt (tw_and (t_cmp op_gt o_gt (d_var (pv 1)) (d_int pe_int) rfl) (tw_and1 (t_cmp op_gt o_gt (d_var (pv 2)) (d_int pe_int) rfl)))) (s_one (s_ret (d_tup (a_cons (d_call (Lens.none Am.none) G__law_pick (hr.mono (by omega)) (by rfl) T.g__law_pick T.F__law_pick.kp T.b__law_pick (a_cons (d_var (pv 0)) (a_cons (d_new (n_lst (a_cons (d_str pe_str) (a_cons (d_str pe_str) (a_cons (d_str pe_str) (a_cons (d_str pe_str) a_nil)))))) a_nil)) rfl (la_cons (la_cons la_nil))) (a_cons (d_call (Lens.none Am.none) G__law_any_term hr (by rfl) T.g__law_any_term T.F__law_any_term.kp T.b__law_any_term (a_cons (d_var (pv 0)) (a_cons (d_bin op_sub o_sub (d_var (pv 1)) (d_int pe_int)) a_nil)) rfl (la_cons (la_cons la_nil))) (a_cons (d_call (Lens.none Am.none) G__law_any_term hr (by rfl) T.g__law_any_term T.F__law_any_term.kp T.b__law_any_term (a_cons (d_var (pv 0)) (a_cons (d_bin op_sub o_sub (d_var (pv 1)) (d_int pe_int)) a_nil)) rfl (la_cons (la_cons la_nil))) a_nil)))))) s_nil)
    (s_one (s_ret (d_if (t_cmp op_eq o_eq (d_bin op_modN o_mod (d_callTy call_int1 o_int1 (by rfl) T.z_int (by decide +kernel) (a_cons (d_var (pv 2)) a_nil)) (d_int pe_int)) (d_int pe_int) rfl) (d_call (Lens.none Am.none) G__law_value (hr.mono (by omega)) (by rfl) T.g__law_value T.F__law_value.kp T.b__law_value (a_cons (d_var (pv 0)) a_nil) rfl (la_cons la_nil)) (d_tup (a_cons (d_str pe_str) (a_cons (d_call (Lens.none Am.none) G__law_any_id (hr.mono (by omega)) (by rfl) T.g__law_any_id T.F__law_any_id.kp T.b__law_any_id (a_cons (d_var (pv 0)) a_nil) rfl (la_cons la_nil)) a_nil)))))))) (fun ds s k hl hw => ?_)
  obtain ⟨rfl, q⟩ := hw
  refine setS_run ⟨6, rfl, by decide, by decide, fun d d0 d1 => ⟨by show 2 < 3; decide, ?_⟩⟩
  have tail : (wRet (wIf (wTst (wO2 gEq (wO2 gMod (wON gInt1 (wCons (wVar 2) wNil)) (wC (.int 2))) (wC (.int 0)))) (wCall (A := Am.none) (Lens.none Am.none) wfVal (wCons (wVar 0) wNil)) (wTup (wCons (wC (.str "use")) (wCons (wCall (A := Am.none) (Lens.none Am.none) wfAid (wCons (wVar 0) wNil)) wNil)))) : WS Unit).f ([.dat .bag, .dat (.int m), .dat (.int d)], s) fun r τ' => k r τ'.2 := by
    refine iteB (fun _ => ⟨rfl, fun i => q _ (.num i)⟩) (fun _ => ⟨rfl, fun i => ⟨Nat.le_of_ble_eq_true rfl, q _ (.use i)⟩⟩)
  refine iteB (fun h => iteB (fun _ => ?_) (fun _ => tail)) (fun _ => tail)
  have h1 : (0 : Int) < m := of_decide_eq_true h
  have hp := hm (by omega)
  subst hp
  obtain ⟨j, rfl⟩ : ∃ j, m = j + 1 := ⟨m - 1, by omega⟩
  refine ⟨Nat.le_of_ble_eq_true rfl, [.str "+", .str "-", .str "*", .str "<"], rfl, by decide, by decide, fun e he => ?_⟩
  have ez : ∃ z, e = .str z ∧ z ∈ signs := by
    simp only [List.mem_cons, List.not_mem_nil, or_false] at he
    rcases he with rfl | rfl | rfl | rfl <;> exact ⟨_, rfl, by decide +kernel⟩
  obtain ⟨z, rfl, hz⟩ := ez
  have ej : Dt.int (((j + 1 : Nat) : Int) - 1) = .int (((j + 1 - 1 : Nat)) : Int) := by
    congr 1
    omega
  refine ⟨by show [Dt.bag, .int (((j + 1 : Nat) : Int) - 1)] = _; rw [ej], fun l hl => ⟨by show [Dt.bag, .int (((j + 1 : Nat) : Int) - 1)] = _; rw [ej], fun r hr => ⟨Nat.le_of_ble_eq_true rfl, q _ (.op hz hl hr)⟩⟩⟩
theorem ok_any_term : ∀ m : Nat, FnOk P w K mg base CX0 (4 + m) T.f__law_any_term T.d__law_any_term ["_law_box", "_law_deep"] (spD K Am.none 2 (wfTerm m))
  | 0 => any_term_step T (n := 3) (Nat.le_refl _) fn_no 0 fun h => absurd h (by decide)
  | m + 1 => any_term_step T (n := 4 + m) (by omega) (ok_any_term m) (m + 1) fun _ => rfl
end
end Kx
/-! part K41r -/
namespace Kx
open PySem PySem.Spec PyProof.Rows L2 My DL
theorem lc_any {m i : Nat} {ρ : En} (hb : ρ[0]? = some (.dat .bag)) (hi : i < ρ.length) (h0 : i ≠ 0) {wt : WE Unit} (ht : ∀ (ρ : En) (k : Dt → En × Unit → Prop), ρ[0]? = some (.dat .bag) → (∀ t : Tr, Dr m t → k t.dt (ρ, ())) → wt.f (ρ, ()) k) : ∀ (ds acc : List Dt) (k : List Dt → Unit → Prop), acc.length + ds.length ≤ 1000000 →
    (∀ es : List Tr, es.length = ds.length → (∀ e ∈ es, Dr m e) → k (acc ++ es.map Tr.dt) ()) → lcN (wgName i) wYes wt ρ ds () acc k
  | [], acc, k, _, q => by
    have := q [] rfl (fun e he => nomatch he)
    rw [List.map_nil, List.append_nil] at this
    exact this
  | d :: ds, acc, k, l, q => by
    rw [List.length_cons] at l
    refine ⟨by omega, ?_⟩
    show optEn (if i < ρ.length then some (ρ.set i (.dat d)) else none) _
    rw [if_pos hi]
    refine ht _ _ (by rw [List.getElem?_set_ne h0]; exact hb) fun t dt => ?_
    refine lc_any hb hi h0 ht ds (acc ++ [t.dt]) k (by rw [List.length_append, List.length_singleton]; omega) fun es he hd => ?_
    have := q (t :: es) (by rw [List.length_cons, List.length_cons, he]) fun e h => by
      rcases List.mem_cons.mp h with rfl | h
      · exact dt
      · exact hd e h
    rw [List.map_cons] at this
    rw [List.append_assoc]
    exact this
theorem map_take_str (ls : List Str) (n : Nat) : (ls.map Dt.str).take n = (ls.take n).map Dt.str := by rw [List.map_take]
section
variable {P : Program} {w : World} {K : PySem.W.Frag} {mg : Str → Option Value} {base : Heap} (T : Tx K mg)
set_option maxHeartbeats 4000000 in
theorem ok_any_sketch : FnOk P w K mg base CX0 8 T.f__law_any_sketch T.d__law_any_sketch ["_law_box"] (spD K Am.none 1 wfSk) := by
  have G__law_draw := dd_draw (P := P) (w := w) (base := base) T
  have G__law_pick := ok_pick (P := P) (w := w) (base := base) T
  have G__law_any_id := ok_any_id (P := P) (w := w) (base := base) T
  have G3 := ok_any_term (P := P) (w := w) (base := base) T 3
  have G2 := ok_any_term (P := P) (w := w) (base := base) T 2
  refine T.F__law_any_sketch.ok sc__law_any_sketch (spD_len rfl) (fun cdv A outer s H vs Q E hr h => ?_)
  refine d_body (m := 5) h rfl (s_cons (s_par (i := 1) (j := 2) rfl sc__law_any_sketch.nd rfl rfl (by decide) rfl rfl (a_cons (d_call (Lens.none Am.none) G__law_draw (hr.mono (by decide)) (by rfl) T.g__law_draw T.F__law_draw.kp T.b__law_draw (a_cons (d_var (pv 0)) (a_cons (d_int pe_int) a_nil)) rfl (la_cons (la_cons la_nil))) (a_cons (d_call (Lens.none Am.none) G__law_pick (hr.mono (by decide)) (by rfl) T.g__law_pick T.F__law_pick.kp T.b__law_pick (a_cons (d_var (pv 0)) (a_cons (d_new (n_lst (a_cons (d_str pe_str) (a_cons (d_str pe_str) (a_cons (d_str pe_str) (a_cons (d_str pe_str) a_nil)))))) a_nil)) rfl (la_cons (la_cons la_nil))) a_nil)) (by rfl))
    (s_cons (s_par (i := 3) (j := 4) rfl sc__law_any_sketch.nd rfl rfl (by decide) rfl rfl (a_cons (d_call (Lens.none Am.none) G3 (hr.mono (by decide)) (by rfl) T.g__law_any_term T.F__law_any_term.kp T.b__law_any_term (a_cons (d_var (pv 0)) (a_cons (d_int pe_int) a_nil)) rfl (la_cons (la_cons la_nil))) (a_cons (d_call (Lens.none Am.none) G__law_any_id (hr.mono (by decide)) (by rfl) T.g__law_any_id T.F__law_any_id.kp T.b__law_any_id (a_cons (d_var (pv 0)) a_nil) rfl (la_cons la_nil)) a_nil)) (by rfl))
    (s_cons (s_if (t_cmp op_lt o_lt (d_var (pv 1)) (d_int pe_int) rfl) (s_one (s_ret (d_if (t_cmp op_eq o_eq (d_var (pv 1)) (d_int pe_int) rfl) (d_tup (a_cons (d_str pe_str) (a_cons (d_var (pv 2)) (a_cons (d_var (pv 3)) a_nil)))) (d_tup (a_cons (d_str pe_str) (a_cons (d_var (pv 4)) (a_cons (d_var (pv 3)) a_nil))))))) s_nil)
    (s_cons (s_if (t_cmp op_eq o_eq (d_var (pv 1)) (d_int pe_int) rfl) (s_one (s_ret (d_tup (a_cons (d_str pe_str) (a_cons (d_var (pv 4)) (a_cons (d_callTy call_tuple_of o_tupOf (by rfl) T.z_tuple (by decide +kernel) (a_cons (d_lc (own := [("_law_k", 5)]) rfl sc__law_any_sketch.nd (i_range (by rfl) T.z_range (a_cons (d_call (Lens.none Am.none) G__law_draw (hr.mono (by decide)) (by rfl) T.g__law_draw T.F__law_draw.kp T.b__law_draw (a_cons (d_var (pv 0)) (a_cons (d_int pe_int) a_nil)) rfl (la_cons (la_cons la_nil))) a_nil)) (blkOk_by (N := N__law_any_sketch) (sc := defScope s__law_any_sketch) (by decide +kernel)) (fun _ _ _ _ _ => pg_name (i := 5) sc__law_any_sketch.nd rfl (Or.inl rfl)) g_name (gw_name (by decide)) (fun _ _ _ _ _ => ts_nil) (fun _ _ _ _ _ => (d_call (Lens.none Am.none) G2 (hr.mono (by decide)) (by rfl) T.g__law_any_term T.F__law_any_term.kp T.b__law_any_term (a_cons (d_var (pv 0)) (a_cons (d_int pe_int) a_nil)) rfl (la_cons (la_cons la_nil))))) a_nil)) a_nil)))))) s_nil)
    (s_cons (s_if (t_cmp op_eq o_eq (d_var (pv 1)) (d_int pe_int) rfl) (s_one (s_ret (d_tup (a_cons (d_str pe_str) (a_cons (d_var (pv 2)) (a_cons (d_callTy call_tuple_of o_tupOf (by rfl) T.z_tuple (by decide +kernel) (a_cons (d_upto (d_new (n_lst (a_cons (d_str pe_str) (a_cons (d_str pe_str) (a_cons (d_str pe_str) (a_cons (d_str pe_str) (a_cons (d_str pe_str) a_nil))))))) (d_call (Lens.none Am.none) G__law_draw (hr.mono (by decide)) (by rfl) T.g__law_draw T.F__law_draw.kp T.b__law_draw (a_cons (d_var (pv 0)) (a_cons (d_int pe_int) a_nil)) rfl (la_cons (la_cons la_nil)))) a_nil)) a_nil)))))) s_nil)
    (s_one (s_ret (d_ix ix_seq o_ix (d_new (n_lst (a_cons (d_tup (a_cons (d_str pe_str) (a_cons (d_var (pv 4)) a_nil))) (a_cons (d_tup (a_cons (d_str pe_str) (a_cons (d_var (pv 3)) a_nil))) (a_cons (d_tup (a_cons (d_str pe_str) (a_cons (d_var (pv 3)) a_nil))) (a_cons (d_tup (a_cons (d_str pe_str) (a_cons (d_var (pv 3)) a_nil))) (a_cons (d_tup (a_cons (d_str pe_str) a_nil)) a_nil))))))) (d_bin op_sub o_sub (d_var (pv 1)) (d_int pe_int)) (fun _ _ => rfl))))))))) (fun ds s k hl hw => ?_)
  obtain ⟨rfl, q⟩ := hw
  refine ⟨9, rfl, by decide, by decide, fun way w0 w1 => ⟨Nat.le_of_ble_eq_true rfl, [.str "x", .str "abcdef", .str "zz", .str "f"], rfl, by decide, by decide, fun e he => ⟨by show 1 < 6; decide, by show 2 < 6; decide, ?_⟩⟩⟩
  have en : ∃ nm, e = .str nm := by
    simp only [List.mem_cons, List.not_mem_nil, or_false] at he
    rcases he with rfl | rfl | rfl | rfl <;> exact ⟨_, rfl⟩
  obtain ⟨nm, rfl⟩ := en
  refine ⟨rfl, fun t dt => ⟨rfl, fun own => ⟨by show 3 < 6; decide, by show 4 < 6; decide, ?_⟩⟩⟩
  refine iteB (fun h => iteB (fun h2 => ⟨Nat.le_of_ble_eq_true rfl, q _ (.let_ dt.up) dt⟩) (fun h2 => ⟨Nat.le_of_ble_eq_true rfl, q _ (.set_ dt) trivial⟩)) (fun h => ?_)
  have n2 : ¬ way < 2 := of_decide_eq_false h
  refine iteB (fun h2 => ?_) (fun h2 => ?_)
  · refine ⟨4, rfl, by decide, by decide, fun n n0 n1 => ?_⟩
    refine ⟨⟨by omega, by omega⟩, ?_⟩
    refine lc_any (m := 2) rfl (by show 5 < 6; decide) (by decide) (fun ρ k hb h => ?_) _ [] _ (by rw [List.length_map, List.length_range]; show 0 + n.toNat ≤ 1000000; omega) fun es he hd => ?_
    · exact wVar_run (k := fun d τ1 => (wfTerm 2).f [d, .int 2] () (ansK fun d' s' => k d' (τ1.1, ()))) hb ⟨rfl, h⟩
    · rw [List.length_map, List.length_range] at he
      refine ⟨by rw [List.nil_append, List.length_map, he]; omega, Nat.le_of_ble_eq_true rfl, ?_⟩
      exact q (.do_ (idt own) es) (.do_ hd (by omega)) trivial
  · have n3 : ¬ way = 2 := of_decide_eq_false h2
    refine iteB (fun h3 => ?_) (fun h3 => ?_)
    · refine ⟨Nat.le_of_ble_eq_true rfl, 6, rfl, by decide, by decide, fun n n0 n1 => ?_⟩
      show optK (if 0 ≤ n then some (Dt.lst (((["a", "b", "x", "abcdef", "e"] : List Str).map Dt.str).take n.toNat)) else none) _
      rw [if_pos n0, map_take_str]
      exact ⟨Nat.le_of_ble_eq_true rfl, q (.def_ (.str nm) _ []) (.def_ (by rw [List.length_take]; show min n.toNat 5 ≤ 5; omega)) trivial⟩
    · have n4 : ¬ way = 3 := of_decide_eq_false h3
      refine ⟨Nat.le_of_ble_eq_true rfl, Nat.le_of_ble_eq_true rfl, Nat.le_of_ble_eq_true rfl, Nat.le_of_ble_eq_true rfl, Nat.le_of_ble_eq_true rfl, Nat.le_of_ble_eq_true rfl, ?_⟩
      have : way = 4 ∨ way = 5 ∨ way = 6 ∨ way = 7 ∨ way = 8 := by omega
      rcases this with rfl | rfl | rfl | rfl | rfl
      · exact q _ .read_ trivial
      · exact q _ (.out_ dt) trivial
      · exact q _ (.if_ dt) trivial
      · exact q _ (.rep_ dt) trivial
      · exact q _ .blk_ trivial
end
end Kx
/-! part K41s -/
namespace Kx
open PySem PySem.Spec PyProof.Rows L2 My DL
theorem k2_int (i : Int) : isB2 (.int i) "list" "tuple" = some false := by
  unfold isB2
  rw [show isB (.int i) "list" = some false from by show kitB "int" "list" = some false; decide +kernel]
  show isB (.int i) "tuple" = some false
  show kitB "int" "tuple" = some false
  decide +kernel
theorem kb_int (i : Int) : isB (.int i) "bool" = some false := by
  show kitB "int" "bool" = some false
  decide +kernel
theorem ks_int (i : Int) : isB (.int i) "str" = some false := by
  show kitB "int" "str" = some false
  decide +kernel
theorem k2_str (z : Str) : isB2 (.str z) "list" "tuple" = some false := by
  unfold isB2
  rw [show isB (.str z) "list" = some false from by show kitB "str" "list" = some false; decide +kernel]
  show isB (.str z) "tuple" = some false
  show kitB "str" "tuple" = some false
  decide +kernel
theorem kb_str (z : Str) : isB (.str z) "bool" = some false := by
  show kitB "str" "bool" = some false
  decide +kernel
theorem ks_str (z : Str) : isB (.str z) "str" = some true := by
  show kitB "str" "str" = some true
  decide +kernel
theorem k2_list (ds : List Dt) : isB2 (.lst ds) "list" "tuple" = some true := by
  unfold isB2
  rw [show isB (.lst ds) "list" = some true from by show kitB "list" "list" = some true; decide +kernel]
theorem kl_list (ds : List Dt) : isB (.lst ds) "list" = some true := by
  show kitB "list" "list" = some true
  decide +kernel
theorem kt_list (ds : List Dt) : isB (.lst ds) "tuple" = some false := by
  show kitB "list" "tuple" = some false
  decide +kernel
theorem k2_tuple (ds : List Dt) : isB2 (.tup ds) "list" "tuple" = some true := by
  unfold isB2
  rw [show isB (.tup ds) "list" = some false from by show kitB "tuple" "list" = some false; decide +kernel]
  show isB (.tup ds) "tuple" = some true
  show kitB "tuple" "tuple" = some true
  decide +kernel
theorem kl_tuple (ds : List Dt) : isB (.tup ds) "list" = some false := by
  show kitB "tuple" "list" = some false
  decide +kernel
theorem kt_tuple (ds : List Dt) : isB (.tup ds) "tuple" = some true := by
  show kitB "tuple" "tuple" = some true
  decide +kernel
/-- data that may be compared, of a depth -/
inductive LikeD : Nat → Dt → Prop
  | int {m : Nat} (i : Int) : LikeD m (.int i)
  | str {m : Nat} (z : Str) : LikeD m (.str z)
  | lst {m : Nat} {ds : List Dt} : ds.length ≤ 1000000 → (∀ d ∈ ds, LikeD m d) → LikeD (m + 1) (.lst ds)
  | tup {m : Nat} {ds : List Dt} : ds.length ≤ 1000000 → (∀ d ∈ ds, LikeD m d) → LikeD (m + 1) (.tup ds)
def wfLike (m : Nat) : WF Unit := ⟨fun ds s k => ∃ d, ds = [d, d] ∧ LikeD m d ∧ k (.rt (.bl true)) s, fun ds s k k' m ⟨d, a, b, h⟩ => ⟨d, a, b, m _ _ h⟩⟩
theorem bools_all : ∀ n : Nat, gAll [.lst (List.replicate n (.bl true))] = some (.bl true) := fun n => by
  have : ∀ n : Nat, boolsD (List.replicate n (Dt.bl true)) = some (List.replicate n true) := fun n => by
    induction n with
    | zero => rfl
    | succ n ih =>
      rw [List.replicate_succ, List.replicate_succ, boolsD, ih]
      rfl
  show (boolsD (List.replicate n (Dt.bl true))).map _ = _
  rw [this]
  simp
theorem lc_like {wfP : WF Unit} {x0 x1 : Sl} : ∀ (ds : List Dt) (n : Nat) (k : List Dt → Unit → Prop), (∀ d ∈ ds, ∀ (k' : Rs → Unit → Prop), k' (.rt (.bl true)) () → wfP.f [d, d] () k') → n + ds.length ≤ 1000000 → k (List.replicate (n + ds.length) (.bl true)) () →
    lcN (wgTup (wgCons (wgName 2) (wgCons (wgName 3) wgNil))) wYes (wCall (A := Am.none) (Lens.none Am.none) wfP (wCons (wVar 2) (wCons (wVar 3) wNil))) [x0, x1, .no, .no] (zipD ds ds) () (List.replicate n (.bl true)) k
  | [], n, k, _, _, q => q
  | d :: ds, n, k, h, l, q => by
    rw [List.length_cons] at l
    refine ⟨by rw [List.length_replicate]; omega, ?_⟩
    refine h d List.mem_cons_self _ ?_
    show lcN _ _ _ _ (zipD ds ds) () (List.replicate n (.bl true) ++ [.bl true]) k
    have e : List.replicate n (Dt.bl true) ++ [.bl true] = List.replicate (n + 1) (.bl true) := by rw [List.replicate_succ']
    rw [e]
    refine lc_like ds (n + 1) k (fun x hx => h x (List.mem_cons_of_mem _ hx)) (by omega) ?_
    rw [List.length_cons] at q
    rw [show n + 1 + ds.length = n + (ds.length + 1) by omega]
    exact q
section
variable {P : Program} {w : World} {K : PySem.W.Frag} {mg : Str → Option Value} {base : Heap} (T : Tx K mg)
set_option maxHeartbeats 4000000 in
theorem like_step {n : Nat} {wfP : WF Unit} (G__law_like : FnOk P w K mg base CX0 n T.f__law_like T.d__law_like ["_law_found", "_law_due"] (spD K Am.none 2 wfP)) (m : Nat) (hm : 0 < m → wfP = wfLike (m - 1)) :
    FnOk P w K mg base CX0 (n + 1) T.f__law_like T.d__law_like ["_law_found", "_law_due"] (spD K Am.none 2 (wfLike m)) := by
  refine T.F__law_like.ok sc__law_like (spD_len rfl) (fun cdv A outer s H vs Q E hr h => ?_)
  refine d_body (m := 2) h rfl (s_cons (s_if (PW.pt (tw_or (t_val (d_isi2 (d_var (pv 1)) (by rfl) T.z_isinstance (pe_bltn (v := .ty "list") (by rfl) T.z_list (by decide +kernel) rfl) (pe_bltn (v := .ty "tuple") (by rfl) T.z_tuple (by decide +kernel) rfl))) (tw_or1 (t_val (d_isi2 (d_var (pv 0)) (by rfl) T.z_isinstance (pe_bltn (v := .ty "list") (by rfl) T.z_list (by decide +kernel) rfl) (pe_bltn (v := .ty "tuple") (by rfl) T.z_tuple (by decide +kernel) rfl)))))) (s_cons (s_if (t_cmp op_ne o_ne (d_isi (d_var (pv 1)) (by rfl) T.z_isinstance (pe_bltn (v := .ty "list") (by rfl) T.z_list (by decide +kernel) rfl)) (d_isi (d_var (pv 0)) (by rfl) T.z_isinstance (pe_bltn (v := .ty "list") (by rfl) T.z_list (by decide +kernel) rfl)) rfl) (s_one (s_ret (d_bl pe_bl))) s_nil)
    (s_cons (s_if (PW.pt (tw_or (t_cmp op_ne o_ne (d_isi (d_var (pv 1)) (by rfl) T.z_isinstance (pe_bltn (v := .ty "tuple") (by rfl) T.z_tuple (by decide +kernel) rfl)) (d_isi (d_var (pv 0)) (by rfl) T.z_isinstance (pe_bltn (v := .ty "tuple") (by rfl) T.z_tuple (by decide +kernel) rfl)) rfl) (tw_or1 (t_cmp op_ne o_ne (d_callB call_len_seq o_len (by rfl) T.z_len (by decide +kernel) (a_cons (d_var (pv 0)) a_nil)) (d_callB call_len_seq o_len (by rfl) T.z_len (by decide +kernel) (a_cons (d_var (pv 1)) a_nil)) rfl)))) (s_one (s_ret (d_bl pe_bl))) s_nil)
    (s_one (s_ret (d_callB (cr_all rfl) o_all (by rfl) T.z_all (by decide +kernel) (a_cons (d_lc (own := [("_law_one", 2), ("_law_other", 3)]) rfl sc__law_like.nd (i_zip (by rfl) T.z_zip (a_cons (d_var (pv 0)) (a_cons (d_var (pv 1)) a_nil))) (blkOk_by (N := N__law_like) (sc := defScope s__law_like) (by decide +kernel)) (fun _ _ _ _ _ => pg_tup rfl (pgs_cons (pg_name (i := 2) sc__law_like.nd rfl (Or.inl rfl)) (pgs_cons (pg_name (i := 3) sc__law_like.nd rfl (Or.inl rfl)) pgs_nil))) (g_tup (g_cons g_name (g_cons g_name g_nil)) (n_cons (n_cons n_nil))) (gw_tup (gw_cons (gw_name (by decide)) (gw_cons (gw_name (by decide)) gw_nil))) (fun _ _ _ _ _ => ts_nil) (fun _ _ _ _ _ => (d_call (Lens.none Am.none) G__law_like hr (by rfl) T.g__law_like T.F__law_like.kp T.b__law_like (a_cons (d_var (pv 2)) (a_cons (d_var (pv 3)) a_nil)) rfl (la_cons (la_cons la_nil))))) a_nil)))))) s_nil)
    (s_cons (s_if (PW.pt (tw_or (t_cmp op_isN o_isN (d_var (pv 1)) (d_non pe_non) rfl) (tw_or1 (t_cmp op_isN o_isN (d_var (pv 0)) (d_non pe_non) rfl)))) (s_one (s_ret (d_and (d_cmp op_isN o_isN (d_var (pv 1)) (d_non pe_non) rfl) (d_one (d_cmp op_isN o_isN (d_var (pv 0)) (d_non pe_non) rfl))))) s_nil)
    (s_cons (s_if (t_cmp op_ne o_ne (d_isi (d_var (pv 0)) (by rfl) T.z_isinstance (pe_bltn (v := .ty "bool") (by rfl) T.z_bool (by decide +kernel) rfl)) (d_isi (d_var (pv 1)) (by rfl) T.z_isinstance (pe_bltn (v := .ty "bool") (by rfl) T.z_bool (by decide +kernel) rfl)) rfl) (s_one (s_ret (d_bl pe_bl))) s_nil)
    (s_one (s_ret (d_and (d_cmp op_eq o_eq (d_isi (d_var (pv 0)) (by rfl) T.z_isinstance (pe_bltn (v := .ty "str") (by rfl) T.z_str (by decide +kernel) rfl)) (d_isi (d_var (pv 1)) (by rfl) T.z_isinstance (pe_bltn (v := .ty "str") (by rfl) T.z_str (by decide +kernel) rfl)) rfl) (d_one (d_cmp op_eq o_eq (d_var (pv 0)) (d_var (pv 1)) rfl)))))))) (fun ds s k hl hw => ?_)
  obtain ⟨d, rfl, ld, q⟩ := hw
  have run : ∀ ds : List Dt, 0 < m → ds.length ≤ 1000000 → (∀ e ∈ ds, LikeD (m - 1) e) → ∀ (x0 x1 : Sl) (k1 : List Dt → Unit → Prop), k1 (List.replicate ds.length (.bl true)) () → lcN (wgTup (wgCons (wgName 2) (wgCons (wgName 3) wgNil))) wYes (wCall (A := Am.none) (Lens.none Am.none) wfP (wCons (wVar 2) (wCons (wVar 3) wNil))) [x0, x1, .no, .no] (zipD ds ds) () [] k1 := fun ds hp l h x0 x1 k1 q1 => by
    refine lc_like ds 0 k1 (fun e he k' h' => ?_) (by omega) (by rw [Nat.zero_add]; exact q1)
    rw [hm hp]
    exact ⟨e, rfl, h e he, h'⟩
  cases ld with
  | int i =>
    simp [wSeq, wIfS, wOrT, wTst, wIsi2, wIsi, wVar, ent, optB, wO2, wC, optK, gIsN, gNe, gEq, gEqS, Dt.isN, wRet, wAnd, wNx, seqK, k2_int, kb_int, ks_int]
    exact q
  | str z =>
    simp [wSeq, wIfS, wOrT, wTst, wIsi2, wIsi, wVar, ent, optB, wO2, wC, optK, gIsN, gNe, gEq, gEqS, Dt.isN, wRet, wAnd, wNx, seqK, k2_str, kb_str, ks_str]
    exact q
  | @lst j ds l hh =>
    have r := run ds (Nat.succ_pos j) l hh
    simp [wSeq, wIfS, wOrT, wTst, wIsi2, wIsi, wVar, ent, optB, wO2, wON, wCons, wNil, wC, optK, gNe, gEqS, gLen, wRet, wNx, seqK, k2_list, kl_list, kt_list, wLc, wZip, wipeE, hideOwn]
    refine r _ _ _ ⟨by rw [List.length_replicate]; exact l, ?_⟩
    rw [bools_all]
    exact q
  | @tup j ds l hh =>
    have r := run ds (Nat.succ_pos j) l hh
    simp [wSeq, wIfS, wOrT, wTst, wIsi2, wIsi, wVar, ent, optB, wO2, wON, wCons, wNil, wC, optK, gNe, gEqS, gLen, wRet, wNx, seqK, k2_tuple, kl_tuple, kt_tuple, wLc, wZip, wipeE, hideOwn]
    refine r _ _ _ ⟨by rw [List.length_replicate]; exact l, ?_⟩
    rw [bools_all]
    exact q
theorem ok_like : ∀ m : Nat, FnOk P w K mg base CX0 (1 + m) T.f__law_like T.d__law_like ["_law_found", "_law_due"] (spD K Am.none 2 (wfLike m))
  | 0 => like_step T (n := 0) fn_no 0 fun h => absurd h (by decide)
  | m + 1 => like_step T (n := 1 + m) (ok_like m) (m + 1) fun _ => rfl
end
end Kx
/-! part DL32 -/
namespace DL
open PySem PySem.Spec PyProof.Rows L2 My
/-! ### x + e, x a list of one's own -/
section
variable {S : Type} {X : Cx} {K : PySem.W.Frag} {A : Am S} {a b : Expr} {pos : Pos} {i : Nat} {w : WE S}
def wCatO (i : Nat) (w : WE S) : WA S := ⟨fun τ k => ownK τ i fun _ => w.f τ fun d τ1 => ownK τ1 i fun ds => match d with
    | .lst es => ds.length + es.length ≤ 1000000 ∧ k (ds ++ es) τ1
    | _ => False, fun τ k k' m h => ownK_mono (fun _ h => w.mono _ _ _ (fun d τ1 h1 => ownK_mono (fun ds h2 => by
  revert h2
  split
  · exact fun h => ⟨h.1, m _ _ h.2⟩
  · exact id) h1) h) h⟩
theorem n_catO (hv : PE X a (tVar i)) (hb : PE X b (tE K A w)) (hK : X.K = K := by rfl) : PE X (.BinOp a .Add b pos) (tN K A (wCatO i w)) := by
  subst hK
  refine PE.imp (pe_op op_cat hv hb) fun σ H Q ⟨F, H0, O, τ, s0, q⟩ => ?_
  obtain ⟨ds0, h0, q⟩ := ownK_some q
  obtain ⟨vs0, g0, _, _, _, _⟩ := s0.ownL h0
  refine ⟨_, g0, bindE s0 q fun H1 v O1 d τ1 s1 k1 x1 q1 => ?_⟩
  obtain ⟨ds, h1, q1⟩ := ownK_some q1
  obtain ⟨vs, g1, _, e1, _, y1⟩ := s1.ownL h1
  split at q1
  · rename_i es
    obtain ⟨l, q1⟩ := q1
    obtain ⟨c, us, rfl, h4, _, h6⟩ := x1.lstI
    have eo : O1 i = O i := by
      rw [g0] at g1
      injection g1 with g1
      injection g1 with g1
      injection g1 with g1
      exact g1.symm
    have lv : vs.length + us.length ≤ 1000000 := by rw [y1.len, h6.len]; exact l
    refine ⟨O i, c, vs, us, rfl, rfl, by rw [← eo]; exact e1, hidP_less _ _ h4, mil lv, fun r nr => ?_⟩
    obtain ⟨n, k⟩ := StN.lay s1 nr (.lst (by rw [List.length_append]; exact lv) (y1.append h6))
    exact q1 _ _ _ O1 n (k1.trans k)
  · exact q1.elim
end
end DL
/-! part K41t -/
namespace Kx
open PySem PySem.Spec PyProof.Rows L2 My DL
/-- trees as contents have them, of a depth -/
inductive Du : Nat → Tr → Prop
  | leaf {m : Nat} {u x : Str} {n : Int} : (["use", "number"] : List Str).contains u = true → Du m (.leaf (.tup [.str u, .tup [.str x, .int n]]))
  | op {m : Nat} {z : Str} {l r : Tr} : signs.contains z = true → Du m l → Du m r → Du (m + 1) (.op z l r)
theorem un_sign {u : Str} (h : (["use", "number"] : List Str).contains u = true) : signs.contains u = false := by
  simp only [List.contains_cons, Bool.or_eq_true, beq_iff_eq] at h
  rcases h with rfl | rfl | h
  · decide +kernel
  · decide +kernel
  · cases h
theorem sign_un {u : Str} (h : signs.contains u = true) : ¬ (["use", "number"] : List Str).contains u = true := fun k => by
  rw [un_sign k] at h
  cases h
theorem Du.tl : ∀ {m : Nat} {t : Tr}, Du m t → t.tl = true
  | _, _, .leaf h => by
    show (!signs.contains _) = true
    rw [un_sign h]
    rfl
  | _, _, .op hz hl hr => by
    show (signs.contains _ && (Tr.tl _ && Tr.tl _)) = true
    rw [hz, hl.tl, hr.tl]
    rfl
theorem Du.size : ∀ {m : Nat} {t : Tr}, Du m t → t.size + 1 ≤ 2 ^ (m + 1)
  | m, _, .leaf _ => by
    show 2 ≤ 2 ^ (m + 1)
    exact Nat.le_self_pow (by omega) 2
  | m + 1, _, .op (l := l) (r := r) hz hl hr => by
    have h1 := hl.size
    have h2 := hr.size
    show l.size + r.size + 1 + 1 ≤ 2 ^ (m + 1 + 1)
    rw [Nat.pow_succ]
    omega
def wfTs : WF Unit := ⟨fun ds s k => ∃ c : Ct, ds = [c.dt] ∧ c.exprs.length ≤ 100 ∧ k (.rl (.lst (c.exprs.map Tr.dt))) s ∧ k (.rt (.lst (c.exprs.map Tr.dt))) s, fun ds s k k' m ⟨c, a, b, h1, h2⟩ => ⟨c, a, b, m _ _ h1, m _ _ h2⟩⟩
def wfTT (m : Nat) : WF Unit := ⟨fun ds s k => ∃ t : Tr, ds = [t.dt] ∧ Du m t ∧ k (.rl (.lst t.leaves)) s, fun ds s k k' m ⟨c, a, b, h1⟩ => ⟨c, a, b, m _ _ h1⟩⟩
theorem ki_end {S : Type} {τ : En × S} {i : Nat} {z : Str} {rest ds : List Dt} {zs : List Str} {wt : WE S} {a b : WS S} {k : Rs → En × S → Prop} (e : τ.1[i]? = some (.dat (.tup (.str z :: rest)))) (e2 : ∀ k : Dt → En × S → Prop, k (.tup ds) τ → wt.f τ k) (e3 : gInS.strsD ds = some zs) (q : if zs.contains z = true then a.f τ k else b.f τ k) :
    (wIfS (wTst (wO2 (gInS false) (wO2 gIx (wVar i) (wC (.int 0))) wt)) a b).f τ k := ki_run e e2 e3 q
/-- x in (..) -/
theorem viS_run {S : Type} {τ : En × S} {i : Nat} {z : Str} {ds : List Dt} {zs : List Str} {wt : WE S} {a r : WS S} {k : Rs → En × S → Prop} (e : τ.1[i]? = some (.dat (.str z))) (e2 : ∀ k : Dt → En × S → Prop, k (.tup ds) τ → wt.f τ k) (e3 : gInS.strsD ds = some zs) (q : if zs.contains z = true then a.f τ (seqK (fun τ' => r.f τ' k) k) else r.f τ k) :
    (wSeq (wIfS (wTst (wO2 (gInS false) (wVar i) wt)) a wNx) r).f τ k := by
  refine wVar_run (k := fun d τ1 => wt.f τ1 fun u τ2 => optK (gInS false d u) fun c => match c with | .bl b1 => if b1 = true then a.f τ2 (seqK (fun τ' => r.f τ' k) k) else wNx.f τ2 (seqK (fun τ' => r.f τ' k) k) | _ => False) e ?_
  refine e2 _ ?_
  show optK (gInS false (.str z) (.tup ds)) _
  rw [gInS, e3]
  exact q
theorem retIf {S : Type} {τ : En × S} {i : Nat} {z z' : Str} {rest : List Dt} {a b : WE S} {k : Rs → En × S → Prop} (e : τ.1[i]? = some (.dat (.tup (.str z :: rest)))) (q : if z = z' then (wRet a).f τ k else (wRet b).f τ k) :
    (wRet (wIf (wTst (wO2 gEq (wO2 gIx (wVar i) (wC (.int 0))) (wC (.str z')))) a b)).f τ k := by
  refine wVar_run (k := fun d τ1 => optK (gIx d (.int 0)) fun c => optK (gEq c (.str z')) fun c => match c with | .bl b1 => if b1 = true then a.f τ1 (fun d τ1 => k (.rt d) τ1) else b.f τ1 (fun d τ1 => k (.rt d) τ1) | _ => False) e ?_
  rw [ix_head]
  show (if decide (z = z') = true then a.f τ (fun d τ1 => k (.rt d) τ1) else b.f τ (fun d τ1 => k (.rt d) τ1))
  by_cases h : z = z'
  · rw [if_pos h] at q
    rw [if_pos (decide_eq_true h)]
    exact q
  · rw [if_neg h] at q
    rw [if_neg (by rw [decide_eq_false h]; decide)]
    exact q
section
variable {P : Program} {w : World} {K : PySem.W.Frag} {mg : Str → Option Value} {base : Heap} (T : Tx K mg)
set_option maxHeartbeats 4000000 in
theorem ok_terms : FnOk P w K mg base CX0 1 T.f__law_terms T.d__law_terms ["_law_content"] (spD K Am.none 1 wfTs) := by
  refine T.F__law_terms.ok sc__law_terms (spD_len rfl) (fun cdv A outer s H vs Q E hr h => ?_)
  refine d_body (m := 0) h rfl (s_cons (s_if (t_cmp op_in_seq (o_inS false) (d_ix ix_seq o_ix (d_var (pv 0)) (d_int pe_int) (fun _ _ => rfl)) (d_tup (a_cons (d_str pe_str) (a_cons (d_str pe_str) a_nil))) rfl) (s_one (s_retL (n_lst (a_cons (d_ix ix_seq o_ix (d_var (pv 0)) (d_int pe_int) (fun _ _ => rfl)) a_nil)))) s_nil)
    (s_cons (s_if (t_cmp op_in_seq (o_inS false) (d_ix ix_seq o_ix (d_var (pv 0)) (d_int pe_int) (fun _ _ => rfl)) (d_tup (a_cons (d_str pe_str) (a_cons (d_str pe_str) (a_cons (d_str pe_str) a_nil)))) rfl) (s_one (s_retL (n_lst (a_cons (d_ix ix_seq o_ix (d_var (pv 0)) (d_int pe_int) (fun _ _ => rfl)) a_nil)))) s_nil)
    (s_one (s_ret (d_if (t_cmp op_eq o_eq (d_ix ix_seq o_ix (d_var (pv 0)) (d_int pe_int) (fun _ _ => rfl)) (d_str pe_str) rfl) (d_callTy call_list_of o_listOf (by rfl) T.z_list (by decide +kernel) (a_cons (d_ix ix_seq o_ix (d_var (pv 0)) (d_int pe_int) (fun _ _ => rfl)) a_nil)) (d_new (n_lst a_nil))))))) (fun ds s k hl hw => ?_)
  obtain ⟨c, rfl, l, q1, q2⟩ := hw
  cases c with
  | let_ i e =>
    refine kiS_yes rfl (fun k h => ⟨Nat.le_of_ble_eq_true rfl, h⟩) rfl (by decide +kernel) ?_
    exact ⟨Nat.le_of_ble_eq_true rfl, q1⟩
  | set_ i e =>
    refine kiS_yes rfl (fun k h => ⟨Nat.le_of_ble_eq_true rfl, h⟩) rfl (by decide +kernel) ?_
    exact ⟨Nat.le_of_ble_eq_true rfl, q1⟩
  | out_ e =>
    refine kiS_no rfl (fun k h => ⟨Nat.le_of_ble_eq_true rfl, h⟩) rfl (by decide +kernel) (kiS_yes rfl (fun k h => ⟨Nat.le_of_ble_eq_true rfl, h⟩) rfl (by decide +kernel) ?_)
    exact ⟨Nat.le_of_ble_eq_true rfl, q1⟩
  | if_ e b c =>
    refine kiS_no rfl (fun k h => ⟨Nat.le_of_ble_eq_true rfl, h⟩) rfl (by decide +kernel) (kiS_yes rfl (fun k h => ⟨Nat.le_of_ble_eq_true rfl, h⟩) rfl (by decide +kernel) ?_)
    exact ⟨Nat.le_of_ble_eq_true rfl, q1⟩
  | rep_ e b =>
    refine kiS_no rfl (fun k h => ⟨Nat.le_of_ble_eq_true rfl, h⟩) rfl (by decide +kernel) (kiS_yes rfl (fun k h => ⟨Nat.le_of_ble_eq_true rfl, h⟩) rfl (by decide +kernel) ?_)
    exact ⟨Nat.le_of_ble_eq_true rfl, q1⟩
  | do_ i es =>
    refine kiS_no rfl (fun k h => ⟨Nat.le_of_ble_eq_true rfl, h⟩) rfl (by decide +kernel) (kiS_no rfl (fun k h => ⟨Nat.le_of_ble_eq_true rfl, h⟩) rfl (by decide +kernel) ?_)
    refine retIf rfl (itP rfl ?_)
    exact q2
  | read_ i =>
    refine kiS_no rfl (fun k h => ⟨Nat.le_of_ble_eq_true rfl, h⟩) rfl (by decide +kernel) (kiS_no rfl (fun k h => ⟨Nat.le_of_ble_eq_true rfl, h⟩) rfl (by decide +kernel) ?_)
    refine retIf rfl (itN (by decide +kernel) ?_)
    exact ⟨Nat.le_of_ble_eq_true rfl, q2⟩
  | def_ i ps b =>
    refine kiS_no rfl (fun k h => ⟨Nat.le_of_ble_eq_true rfl, h⟩) rfl (by decide +kernel) (kiS_no rfl (fun k h => ⟨Nat.le_of_ble_eq_true rfl, h⟩) rfl (by decide +kernel) ?_)
    refine retIf rfl (itN (by decide +kernel) ?_)
    exact ⟨Nat.le_of_ble_eq_true rfl, q2⟩
  | blk_ b =>
    refine kiS_no rfl (fun k h => ⟨Nat.le_of_ble_eq_true rfl, h⟩) rfl (by decide +kernel) (kiS_no rfl (fun k h => ⟨Nat.le_of_ble_eq_true rfl, h⟩) rfl (by decide +kernel) ?_)
    refine retIf rfl (itN (by decide +kernel) ?_)
    exact ⟨Nat.le_of_ble_eq_true rfl, q2⟩
theorem tt_step {n : Nat} {wfP : WF Unit} (G__law_term_things : FnOk P w K mg base CX0 n T.f__law_term_things T.d__law_term_things ["_law_term"] (spD K Am.none 1 wfP)) (m : Nat) (m8 : m ≤ 8) (hm : 0 < m → wfP = wfTT (m - 1)) :
    FnOk P w K mg base CX0 (n + 1) T.f__law_term_things T.d__law_term_things ["_law_term"] (spD K Am.none 1 (wfTT m)) := by
  refine T.F__law_term_things.ok sc__law_term_things (spD_len rfl) (fun cdv A outer s H vs Q E hr h => ?_)
  refine d_body (m := 0) h rfl (s_cons (s_if (t_cmp op_in_seq (o_inS false) (d_ix ix_seq o_ix (d_var (pv 0)) (d_int pe_int) (fun _ _ => rfl)) (d_tup (a_cons (d_str pe_str) (a_cons (d_str pe_str) a_nil))) rfl) (s_one (s_retL (n_lst (a_cons (d_tup (a_cons (d_ix ix_seq o_ix (d_var (pv 0)) (d_int pe_int) (fun _ _ => rfl)) (a_cons (d_ix ix_seq o_ix (d_var (pv 0)) (d_int pe_int) (fun _ _ => rfl)) a_nil))) a_nil)))) s_nil)
    (s_one (s_retL (n_cat (d_call (Lens.none Am.none) G__law_term_things hr (by rfl) T.g__law_term_things T.F__law_term_things.kp T.b__law_term_things (a_cons (d_ix ix_seq o_ix (d_var (pv 0)) (d_int pe_int) (fun _ _ => rfl)) a_nil) rfl (la_cons la_nil)) (d_call (Lens.none Am.none) G__law_term_things hr (by rfl) T.g__law_term_things T.F__law_term_things.kp T.b__law_term_things (a_cons (d_ix ix_seq o_ix (d_var (pv 0)) (d_int pe_int) (fun _ _ => rfl)) a_nil) rfl (la_cons la_nil)))))) (fun ds s k hl hw => ?_)
  obtain ⟨t, rfl, du, q⟩ := hw
  cases du with
  | leaf h =>
    refine kiS_yes rfl (fun k h => ⟨Nat.le_of_ble_eq_true rfl, h⟩) rfl h ?_
    exact ⟨Nat.le_of_ble_eq_true rfl, Nat.le_of_ble_eq_true rfl, q⟩
  | @op j z l r hz hl2 hr2 =>
    have hp := hm (Nat.succ_pos j)
    subst hp
    have s1 := hl2.size
    have s2 := hr2.size
    have p8 : 2 ^ (j + 1) ≤ 2 ^ 9 := Nat.pow_le_pow_right (by decide) (by omega)
    have l1 := leaves_len l
    have l2 := leaves_len r
    refine kiS_no rfl (fun k h => ⟨Nat.le_of_ble_eq_true rfl, h⟩) rfl (sign_un hz) ?_
    exact ⟨l, rfl, hl2, r, rfl, hr2, by show l.leaves.length + r.leaves.length ≤ 1000000; omega, q⟩
theorem ok_term_things : ∀ m : Nat, m ≤ 8 → FnOk P w K mg base CX0 (1 + m) T.f__law_term_things T.d__law_term_things ["_law_term"] (spD K Am.none 1 (wfTT m))
  | 0, h8 => tt_step T (n := 0) fn_no 0 h8 fun h => absurd h (by decide)
  | m + 1, h8 => tt_step T (n := 1 + m) (ok_term_things m (by omega)) (m + 1) h8 fun _ => rfl
end
end Kx
/-! part K41u -/
namespace Kx
open PySem PySem.Spec PyProof.Rows L2 My DL
/-- contents that the law looks at -/
def Ct.fine (c : Ct) : Prop := (∀ e ∈ c.exprs, Du 4 e) ∧ c.exprs.length ≤ 100 ∧ match c with
  | .def_ _ ps _ => ps.length ≤ 1000
  | _ => True
theorem Ct.fine.fit {c : Ct} (f : c.fine) : c.fit := ⟨fun e he => ⟨(f.1 e he).tl, by have := (f.1 e he).size; omega⟩, f.2.1, f.2.2⟩
def wfThs : WF Unit := ⟨fun ds s k => ∃ c : Ct, ds = [c.dt] ∧ c.fine ∧ k (.rl (.lst c.things)) s, fun ds s k k' m ⟨c, a, b, h1⟩ => ⟨c, a, b, m _ _ h1⟩⟩
def bodyTh : WS Unit := wSetL 2 (wCatO 2 (wCall (A := Am.none) (Lens.none Am.none) (wfTT 4) (wCons (wVar 3) wNil)))
theorem th_loop : ∀ (es : List Tr) (pre : List Dt) (a0 a1 a3 a4 : Sl) (s : Unit) (k : Rs → En × Unit → Prop), (∀ e ∈ es, Du 4 e) → pre.length + (es.flatMap Tr.leaves).length ≤ 1000000 →
    (∀ b3, k .nx ([a0, a1, .own (.lst (pre ++ es.flatMap Tr.leaves)), b3, a4], s)) → lpN (wgName 3) bodyTh (es.map Tr.dt) ([a0, a1, .own (.lst pre), a3, a4], s) k
  | [], pre, a0, a1, a3, a4, s, k, _, _, q => by
    have q1 := q a3
    rw [List.flatMap_nil, List.append_nil] at q1
    exact q1
  | e :: es, pre, a0, a1, a3, a4, s, k, h, l, q => by
    have he := h e List.mem_cons_self
    rw [List.flatMap_cons, List.length_append] at l
    refine ⟨e, rfl, he, ?_⟩
    refine ⟨by omega, ?_⟩
    refine itP (by show 2 < 5; decide) ?_
    refine th_loop es (pre ++ e.leaves) a0 a1 (.dat e.dt) a4 s k (fun x hx => h x (List.mem_cons_of_mem _ hx)) (by rw [List.length_append]; omega) fun b3 => ?_
    have q1 := q b3
    rw [List.flatMap_cons, ← List.append_assoc] at q1
    exact q1
theorem forT {R : WS Unit} (c : Ct) (pre : List Dt) (f : c.fine) (hp : pre.length ≤ 10) {a1 a3 a4 : Sl} {k : Rs → En × Unit → Prop} (q : ∀ b3, R.f ([.dat c.dt, a1, .own (.lst (pre ++ c.exprs.flatMap Tr.leaves)), b3, a4], ()) k) :
    (wSeq (wFor (wItL (wCall (A := Am.none) (Lens.none Am.none) wfTs (wCons (wVar 0) wNil))) (wgName 3) bodyTh) R).f ([.dat c.dt, a1, .own (.lst pre), a3, a4], ()) k := by
  have h1 := leaves_all c.exprs f.fit.1
  have h2 : c.exprs.length ≤ 100 := f.2.1
  refine ⟨c, rfl, h2, ?_, ?_⟩
  · exact th_loop c.exprs pre _ _ _ _ _ _ f.1 (by omega) q
  · exact th_loop c.exprs pre _ _ _ _ _ _ f.1 (by omega) q
theorem fin_blk {c a3 a4 : Sl} {pre : List Dt} {z : Str} {a b : WE Unit} {k : Rs → En × Unit → Prop} (q : if z = ("block" : Str) then (wRetL (wCatO 2 a)).f ([c, .dat (.str z), .own (.lst pre), a3, a4], ()) k else (wRetL (wCatO 2 b)).f ([c, .dat (.str z), .own (.lst pre), a3, a4], ()) k) :
    (wRetL (wCatO 2 (wIf (wTst (wO2 gEq (wVar 1) (wC (.str "block")))) a b))).f ([c, .dat (.str z), .own (.lst pre), a3, a4], ()) k := by
  show if decide (z = ("block" : Str)) = true then (wRetL (wCatO 2 a)).f ([c, .dat (.str z), .own (.lst pre), a3, a4], ()) k else (wRetL (wCatO 2 b)).f ([c, .dat (.str z), .own (.lst pre), a3, a4], ()) k
  by_cases h : z = ("block" : Str)
  · rw [if_pos h] at q
    rw [if_pos (decide_eq_true h)]
    exact q
  · rw [if_neg h] at q
    rw [if_neg (by rw [decide_eq_false h]; decide)]
    exact q
section
variable {P : Program} {w : World} {K : PySem.W.Frag} {mg : Str → Option Value} {base : Heap} (T : Tx K mg)
set_option maxHeartbeats 4000000 in
theorem ok_things : FnOk P w K mg base CX0 6 T.f__law_things T.d__law_things ["_law_content"] (spD K Am.none 1 wfThs) := by
  have G__law_terms := ok_terms (P := P) (w := w) (base := base) T
  have G__law_term_things := ok_term_things (P := P) (w := w) (base := base) T 4 (by decide)
  refine T.F__law_things.ok sc__law_things (spD_len rfl) (fun cdv A outer s H vs Q E hr h => ?_)
  refine d_body (m := 4) h rfl (s_cons (s_parL (i := 1) (j := 2) rfl sc__law_things.nd rfl rfl (by decide) rfl rfl (d_ix ix_seq o_ix (d_var (pv 0)) (d_int pe_int) (fun _ _ => rfl)) (by rfl))
    (s_cons (s_if (t_cmp op_eq o_eq (d_var (pv 1)) (d_str pe_str) rfl) (s_one (s_app (pv 2) (d_tup (a_cons (d_str pe_str) (a_cons (d_ix ix_seq o_ix (d_var (pv 0)) (d_int pe_int) (fun _ _ => rfl)) a_nil))))) s_nil)
    (s_cons (s_if (t_cmp op_in_seq (o_inS false) (d_var (pv 1)) (d_tup (a_cons (d_str pe_str) (a_cons (d_str pe_str) (a_cons (d_str pe_str) a_nil)))) rfl) (s_one (s_app (pv 2) (d_tup (a_cons (d_str pe_str) (a_cons (d_ix ix_seq o_ix (d_var (pv 0)) (d_int pe_int) (fun _ _ => rfl)) a_nil))))) s_nil)
    (s_cons (s_for PassesOwn.never rfl (i_list (d_call (Lens.none Am.none) G__law_terms (hr.mono (by decide)) (by rfl) T.g__law_terms T.F__law_terms.kp T.b__law_terms (a_cons (d_var (pv 0)) a_nil) rfl (la_cons la_nil))) (pg_name (i := 3) sc__law_things.nd rfl (Or.inl rfl)) g_name (s_one (s_setL (i := 2) sc__law_things.nd rfl (Or.inl rfl) (n_catO (pv 2) (d_call (Lens.none Am.none) (G__law_term_things) (hr.mono (by decide)) (by rfl) T.g__law_term_things T.F__law_term_things.kp T.b__law_term_things (a_cons (d_var (pv 3)) a_nil) rfl (la_cons la_nil))))))
    (s_cons (s_if (t_cmp op_eq o_eq (d_var (pv 1)) (d_str pe_str) rfl) (s_one (s_retL (n_cat (d_new (n_lst (a_cons (d_tup (a_cons (d_str pe_str) (a_cons (d_ix ix_seq o_ix (d_var (pv 0)) (d_int pe_int) (fun _ _ => rfl)) a_nil))) (a_cons (d_tup (a_cons (d_str pe_str) (a_cons (d_ix ix_seq o_ix (d_var (pv 0)) (d_int pe_int) (fun _ _ => rfl)) a_nil))) a_nil)))) (d_lc (own := [("_law_own", 4)]) rfl sc__law_things.nd (i_tup (d_ix ix_seq o_ix (d_var (pv 0)) (d_int pe_int) (fun _ _ => rfl))) (blkOk_by (N := N__law_things) (sc := defScope s__law_things) (by decide +kernel)) (fun _ _ _ _ _ => pg_name (i := 4) sc__law_things.nd rfl (Or.inl rfl)) g_name (gw_name (by decide)) (fun _ _ _ _ _ => ts_nil) (fun _ _ _ _ _ => (d_tup (a_cons (d_str pe_str) (a_cons (d_var (pv 4)) a_nil)))))))) s_nil)
    (s_cons (s_if (t_cmp op_eq o_eq (d_var (pv 1)) (d_str pe_str) rfl) (s_one (s_retL (n_catO (pv 2) (d_new (n_lst (a_cons (d_tup (a_cons (d_str pe_str) (a_cons (d_ix ix_seq o_ix (d_var (pv 0)) (d_int pe_int) (fun _ _ => rfl)) a_nil))) (a_cons (d_tup (a_cons (d_str pe_str) (a_cons (d_ix ix_seq o_ix (d_var (pv 0)) (d_int pe_int) (fun _ _ => rfl)) a_nil))) a_nil))))))) s_nil)
    (s_cons (s_if (t_cmp op_eq o_eq (d_var (pv 1)) (d_str pe_str) rfl) (s_one (s_retL (n_catO (pv 2) (d_new (n_lst (a_cons (d_tup (a_cons (d_str pe_str) (a_cons (d_ix ix_seq o_ix (d_var (pv 0)) (d_int pe_int) (fun _ _ => rfl)) a_nil))) a_nil)))))) s_nil)
    (s_one (s_retL (n_catO (pv 2) (d_if (t_cmp op_eq o_eq (d_var (pv 1)) (d_str pe_str) rfl) (d_new (n_lst (a_cons (d_tup (a_cons (d_str pe_str) (a_cons (d_ix ix_seq o_ix (d_var (pv 0)) (d_int pe_int) (fun _ _ => rfl)) a_nil))) a_nil))) (d_new (n_lst a_nil))))))))))))) (fun ds s k hl hw => ?_)
  obtain ⟨c, rfl, f, q⟩ := hw
  have lv := leaves_all c.exprs f.fit.1
  have l2 : c.exprs.length ≤ 100 := f.2.1
  cases c with
  | let_ i e =>
    refine ⟨by show 1 < 5; decide, by show 2 < 5; decide, ?_⟩
    refine kvS_yes rfl rfl ⟨Nat.le_of_ble_eq_true rfl, (by show 0 < 1000000; decide), ?_⟩
    refine viS_run rfl (fun k h => ⟨Nat.le_of_ble_eq_true rfl, h⟩) rfl (itN (by decide +kernel) ?_)
    refine forT (.let_ i e) [declD i] f (Nat.le_of_ble_eq_true rfl) fun b3 => ?_
    refine kvS_no rfl (by decide +kernel) (kvS_no rfl (by decide +kernel) (kvS_no rfl (by decide +kernel) (fin_blk (itN (by decide +kernel) ⟨Nat.zero_le _, ?_⟩))))
    refine ⟨by simp only [List.length_append, List.length_cons, List.length_nil]; omega, ?_⟩
    simpa [Ct.things, Ct.exprs, declD, useD, blkD, seqK] using q
  | set_ i e =>
    refine ⟨by show 1 < 5; decide, by show 2 < 5; decide, ?_⟩
    refine kvS_no rfl (by decide +kernel) (viS_run rfl (fun k h => ⟨Nat.le_of_ble_eq_true rfl, h⟩) rfl (itP (by decide +kernel) ⟨Nat.le_of_ble_eq_true rfl, (by show 0 < 1000000; decide), ?_⟩))
    refine forT (.set_ i e) [useD i] f (Nat.le_of_ble_eq_true rfl) fun b3 => ?_
    refine kvS_no rfl (by decide +kernel) (kvS_no rfl (by decide +kernel) (kvS_no rfl (by decide +kernel) (fin_blk (itN (by decide +kernel) ⟨Nat.zero_le _, ?_⟩))))
    refine ⟨by simp only [List.length_append, List.length_cons, List.length_nil]; omega, ?_⟩
    simpa [Ct.things, Ct.exprs, declD, useD, blkD, seqK] using q
  | read_ i =>
    refine ⟨by show 1 < 5; decide, by show 2 < 5; decide, ?_⟩
    refine kvS_no rfl (by decide +kernel) (viS_run rfl (fun k h => ⟨Nat.le_of_ble_eq_true rfl, h⟩) rfl (itP (by decide +kernel) ⟨Nat.le_of_ble_eq_true rfl, (by show 0 < 1000000; decide), ?_⟩))
    refine forT (.read_ i) [useD i] f (Nat.le_of_ble_eq_true rfl) fun b3 => ?_
    refine kvS_no rfl (by decide +kernel) (kvS_no rfl (by decide +kernel) (kvS_no rfl (by decide +kernel) (fin_blk (itN (by decide +kernel) ⟨Nat.zero_le _, ?_⟩))))
    refine ⟨by simp only [List.length_append, List.length_cons, List.length_nil]; omega, ?_⟩
    simpa [Ct.things, Ct.exprs, declD, useD, blkD, seqK] using q
  | out_ e =>
    refine ⟨by show 1 < 5; decide, by show 2 < 5; decide, ?_⟩
    refine kvS_no rfl (by decide +kernel) (viS_run rfl (fun k h => ⟨Nat.le_of_ble_eq_true rfl, h⟩) rfl (itN (by decide +kernel) ?_))
    refine forT (.out_ e) [] f (Nat.le_of_ble_eq_true rfl) fun b3 => ?_
    refine kvS_no rfl (by decide +kernel) (kvS_no rfl (by decide +kernel) (kvS_no rfl (by decide +kernel) (fin_blk (itN (by decide +kernel) ⟨Nat.zero_le _, ?_⟩))))
    refine ⟨by simp only [List.length_append, List.length_cons, List.length_nil]; omega, ?_⟩
    simpa [Ct.things, Ct.exprs, declD, useD, blkD, seqK] using q
  | do_ i es =>
    refine ⟨by show 1 < 5; decide, by show 2 < 5; decide, ?_⟩
    refine kvS_no rfl (by decide +kernel) (viS_run rfl (fun k h => ⟨Nat.le_of_ble_eq_true rfl, h⟩) rfl (itP (by decide +kernel) ⟨Nat.le_of_ble_eq_true rfl, (by show 0 < 1000000; decide), ?_⟩))
    refine forT (.do_ i es) [useD i] f (Nat.le_of_ble_eq_true rfl) fun b3 => ?_
    refine kvS_no rfl (by decide +kernel) (kvS_no rfl (by decide +kernel) (kvS_no rfl (by decide +kernel) (fin_blk (itN (by decide +kernel) ⟨Nat.zero_le _, ?_⟩))))
    refine ⟨by simp only [List.length_append, List.length_cons, List.length_nil]; omega, ?_⟩
    simpa [Ct.things, Ct.exprs, declD, useD, blkD, seqK] using q
  | if_ e b c =>
    refine ⟨by show 1 < 5; decide, by show 2 < 5; decide, ?_⟩
    refine kvS_no rfl (by decide +kernel) (viS_run rfl (fun k h => ⟨Nat.le_of_ble_eq_true rfl, h⟩) rfl (itN (by decide +kernel) ?_))
    refine forT (.if_ e b c) [] f (Nat.le_of_ble_eq_true rfl) fun b3 => ?_
    refine kvS_no rfl (by decide +kernel) (kvS_yes rfl rfl ?_)
    refine ⟨Nat.le_of_ble_eq_true rfl, Nat.le_of_ble_eq_true rfl, Nat.le_of_ble_eq_true rfl, ?_⟩
    refine ⟨by simp only [List.length_append, List.length_cons, List.length_nil]; omega, ?_⟩
    simpa [Ct.things, Ct.exprs, declD, useD, blkD, seqK] using q
  | rep_ e b =>
    refine ⟨by show 1 < 5; decide, by show 2 < 5; decide, ?_⟩
    refine kvS_no rfl (by decide +kernel) (viS_run rfl (fun k h => ⟨Nat.le_of_ble_eq_true rfl, h⟩) rfl (itN (by decide +kernel) ?_))
    refine forT (.rep_ e b) [] f (Nat.le_of_ble_eq_true rfl) fun b3 => ?_
    refine kvS_no rfl (by decide +kernel) (kvS_no rfl (by decide +kernel) (kvS_yes rfl rfl ?_))
    refine ⟨Nat.le_of_ble_eq_true rfl, Nat.le_of_ble_eq_true rfl, ?_⟩
    refine ⟨by simp only [List.length_append, List.length_cons, List.length_nil]; omega, ?_⟩
    simpa [Ct.things, Ct.exprs, declD, useD, blkD, seqK] using q
  | blk_ b =>
    refine ⟨by show 1 < 5; decide, by show 2 < 5; decide, ?_⟩
    refine kvS_no rfl (by decide +kernel) (viS_run rfl (fun k h => ⟨Nat.le_of_ble_eq_true rfl, h⟩) rfl (itN (by decide +kernel) ?_))
    refine forT (.blk_ b) [] f (Nat.le_of_ble_eq_true rfl) fun b3 => ?_
    refine kvS_no rfl (by decide +kernel) (kvS_no rfl (by decide +kernel) (kvS_no rfl (by decide +kernel) (fin_blk (itP rfl ⟨Nat.le_of_ble_eq_true rfl, Nat.le_of_ble_eq_true rfl, ?_⟩))))
    refine ⟨by simp only [List.length_append, List.length_cons, List.length_nil]; omega, ?_⟩
    simpa [Ct.things, Ct.exprs, declD, useD, blkD, seqK] using q
  | def_ i ps b =>
    refine ⟨by show 1 < 5; decide, by show 2 < 5; decide, ?_⟩
    refine kvS_no rfl (by decide +kernel) (viS_run rfl (fun k h => ⟨Nat.le_of_ble_eq_true rfl, h⟩) rfl (itN (by decide +kernel) ?_))
    refine forT (.def_ i ps b) [] f (Nat.le_of_ble_eq_true rfl) fun b3 => ?_
    refine kvS_yes rfl rfl ?_
    have lp : ps.length ≤ 1000 := f.2.2
    have e : ∀ l : List Id', (l.map idt).flatMap (fun d => [Dt.tup [.str "declaration", d]]) = l.map declD := fun l => by
      induction l with
      | nil => rfl
      | cons x xs ih => rw [List.map_cons, List.flatMap_cons, ih]; rfl
    refine ⟨Nat.le_of_ble_eq_true rfl, Nat.le_of_ble_eq_true rfl, Nat.le_of_ble_eq_true rfl, ?_⟩
    refine lc_run (fun d => [Dt.tup [.str "declaration", d]]) (ps.map idt) () [] _ (fun d hd => ⟨_, rfl, .inr ⟨_, rfl, fun k' h => h, fun k' h => ⟨Nat.le_of_ble_eq_true rfl, h⟩⟩⟩) (by simp; omega) ⟨?_, ?_⟩
    · rw [List.nil_append, e]
      simp
      omega
    · rw [List.nil_append, e]
      show [declD i, blkD b].length + (ps.map declD).length ≤ 1000000 ∧ k (.rl (.lst ([declD i, blkD b] ++ ps.map declD))) _
      exact ⟨by simp; omega, q⟩
end
end Kx
/-! part DL33 -/
namespace DL
open PySem PySem.Spec PyProof.Rows L2 My
/-! ### a dict with texts as keys, as a state -/
def valW (ps : List (Key × Dt)) (k : Key) : Option Dt := (ps.find? fun kv => decide (kv.1 = k)).map (·.2)
theorem valW_x {K : PySem.W.Frag} {H : Hp} (k : Key) : ∀ {kvs : List (Key × V)} {ps : List (Key × Dt)}, DXk K H kvs ps → OptX K H (valV kvs k) (valW ps k)
  | _, _, .nil => .none
  | _, _, .cons (k := j) (v := v) (vs := vs) (d := d) (ds := ds) x y => by
    have ih := valW_x k y
    unfold valV valW at ih ⊢
    rw [List.find?_cons, List.find?_cons]
    by_cases e : j = k
    · rw [decide_eq_true (show ((j, v).1 : Key) = k from e)]
      exact .some x
    · rw [decide_eq_false (show ¬ ((j, v).1 : Key) = k from e)]
      exact ih
def putW (ps : List (Key × Dt)) (k : Key) (d : Dt) : List (Key × Dt) := if (ps.any fun p => decide (p.1 = k)) = true then ps.map (fun p => if p.1 = k then (p.1, d) else p) else ps ++ [(k, d)]
theorem DXk.snoc {K : PySem.W.Frag} {H : Hp} {k : Key} {v : V} {d : Dt} (x : DX K H v d) : ∀ {vs : List (Key × V)} {ps : List (Key × Dt)}, DXk K H vs ps → DXk K H (vs ++ [(k, v)]) (ps ++ [(k, d)])
  | _, _, .nil => .cons x .nil
  | _, _, .cons y r => .cons y (DXk.snoc x r)
theorem DXk.repl {K : PySem.W.Frag} {H : Hp} {k : Key} {v : V} {d : Dt} (x : DX K H v d) : ∀ {vs : List (Key × V)} {ps : List (Key × Dt)}, DXk K H vs ps → DXk K H (vs.map fun p => if p.1 = k then (p.1, v) else p) (ps.map fun p => if p.1 = k then (p.1, d) else p)
  | _, _, .nil => .nil
  | _, _, .cons (k := j) y r => by
    rw [List.map_cons, List.map_cons]
    by_cases e : j = k
    · rw [if_pos e, if_pos e]
      exact .cons x (DXk.repl x r)
    · rw [if_neg e, if_neg e]
      exact .cons y (DXk.repl x r)
theorem DXk.any {K : PySem.W.Frag} {H : Hp} {k : Key} : ∀ {vs : List (Key × V)} {ps : List (Key × Dt)}, DXk K H vs ps → (vs.any fun p => decide (p.1 = k)) = ps.any fun p => decide (p.1 = k)
  | _, _, .nil => rfl
  | _, _, .cons y r => by rw [List.any_cons, List.any_cons, DXk.any r]
theorem DXk.put {K : PySem.W.Frag} {H : Hp} {k : Key} {v : V} {d : Dt} (x : DX K H v d) {vs : List (Key × V)} {ps : List (Key × Dt)} (r : DXk K H vs ps) : DXk K H (putK vs k v) (putW ps k d) := by
  unfold putK putW
  rw [r.any]
  split
  · exact r.repl x
  · exact r.snoc x
theorem DXk.len {K : PySem.W.Frag} {H : Hp} : ∀ {vs : List (Key × V)} {ps : List (Key × Dt)}, DXk K H vs ps → vs.length = ps.length
  | _, _, .nil => rfl
  | _, _, .cons _ r => by rw [List.length_cons, List.length_cons, DXk.len r]
theorem putK_lenW (kvs : List (Key × V)) (k : Key) (v : V) : (putK kvs k v).length ≤ kvs.length + 1 := by
  unfold putK
  split
  · rw [List.length_map]
    omega
  · rw [List.length_append, List.length_singleton]
    exact Nat.le_refl _
theorem DXk.lenW {K : PySem.W.Frag} {H : Hp} : ∀ {vs : List (Key × V)} {ps : List (Key × Dt)}, DXk K H vs ps → vs.length = ps.length
  | _, _, .nil => rfl
  | _, _, .cons _ r => by rw [List.length_cons, List.length_cons, DXk.lenW r]
/-- the dict stands at a -/
def AmK (K : PySem.W.Frag) (a : Addr) : Am (List (Key × Dt)) where
  at_ ps P H := ∃ kvs, H a = some (.dK kvs) ∧ kvs.length ≤ 1000000 ∧ DXk K (hidP P H) kvs ps
  foot b := b = a
  tab _ := False
  has ps P H b h f := by
    obtain ⟨kvs, e, _⟩ := h
    exact ⟨.dK kvs, by rw [show b = a from f]; exact e, trivial⟩
  hasT _ _ _ _ _ h := h.elim
  move ps P P' H H' h k f := by
    obtain ⟨kvs, e, l, x⟩ := h
    exact ⟨kvs, f _ _ e rfl, l, x.same k.same⟩
section
variable {K : PySem.W.Frag} {a : Addr}
abbrev SK := List (Key × Dt)
def selfW (a : Addr) (τ : En × SK) (i : Nat) (k : Prop) : Prop := τ.1[i]? = some (.dat (.ptr a)) ∧ k
/-- x['z'] -/
def wKget (a : Addr) (i : Nat) (z : Str) : WE SK := ⟨fun τ k => selfW a τ i (optK (valW τ.2 (.inr z)) fun d => k d τ), fun τ k k' m h => ⟨h.1, optK_mono (fun d => m d τ) h.2⟩⟩
/-- x['z'] = e -/
def wKput (a : Addr) (i : Nat) (z : Str) (e : WE SK) : WS SK := ⟨fun τ k => e.f τ fun d τ1 => selfW a τ1 i (τ1.2.length < 1000000 ∧ k .nx (τ1.1, putW τ1.2 (.inr z) d)), fun τ k k' m h => e.mono _ _ _ (fun d τ1 h1 => ⟨h1.1, h1.2.1, m _ _ h1.2.2⟩) h⟩
variable {X : Cx} {o ik value : Expr} {z : Str} {pos pos' : Pos} {i : Nat} {w : WE SK}
theorem d_kget (hu : X.A.units + 1 < cLine) (hv : PE X o (tVar i)) (hk : PE X ik (tC (.str z))) (hs : NoSl ik := by exact fun _ _ => rfl) : PE X (.Subscript o ik pos) (tE K (AmK K a) (wKget a i z)) :=
  PE.imp (pe_dget hu hv hk hs) fun σ H Q ⟨F, H0, O, τ, s0, hs0, q⟩ => by
    obtain ⟨d, hd, q⟩ := some_of q
    obtain ⟨u, h1, h2⟩ := s0.dat i _ hs0
    obtain ⟨kvs, e, l, x⟩ := s0.am
    have w := valW_x (.inr z) x
    rw [hd] at w
    generalize hg : valV kvs (.inr z : Key) = ov at w
    cases w with
    | some xx => exact ⟨u, h1, a, _, h2.ptrI, by rw [← hg]; exact DGet.k (k := .inr z) e, q H _ O s0 (Same.refl _) xx⟩
theorem s_kput (hu : X.A.units + 1 < cLine) (hv : PE X o (tVar i)) (hk : PE X ik (tC (.str z))) (he : PE X value (tE K (AmK K a) w)) (hs : swapsWith value (some (.Subscript o ik pos')) pos.line X.env = pure false := by rfl) : PS X (.Assign [.Subscript o ik pos'] value pos) (tS K (AmK K a) (wKput a i z w)) :=
  PS.imp (ps_dput hu hv hk he hs) fun D σ H ⟨F, H0, O, τ, s0, q⟩ => bindE s0 q fun H1 v O1 d τ1 s1 k1 x1 ⟨hs1, lt, q1⟩ => by
    obtain ⟨u, h1, h2⟩ := s1.dat i _ hs1
    obtain ⟨kvs, e, l, x⟩ := s1.am
    have lv := x.lenW
    have ev : EvA (AmK K a) H1 (upd H1 a (.dK (putK kvs (.inr z) v))) := fun b u e n _ => by rw [upd_ne (fun y => n y)]; exact e
    have sm : Same (hidP (hidn F O1 τ1.1) H1) (hidP (hidn F O1 τ1.1) (upd H1 a (.dK (putK kvs (.inr z) v)))) := hidP_same fun b u e _ n => ⟨n, by rw [upd_ne (fun y => n (.inl (s1.fin _ y)))]; exact e⟩
    obtain ⟨s2, k2⟩ := s1.call (Lens.id (AmK K a)) (s' := putW τ1.2 (.inr z) d) ⟨_, upd_same, by have := putK_lenW kvs (.inr z) v; omega, ((x.same sm).put (x1.same sm))⟩ ev
    exact ⟨u, h1, a, _, h2.ptrI, DPut.k (k := .inr z) e (by unfold sizeLine; omega), q1 σ _ O1 s2 (k1.trans k2)⟩
end
end DL
/-! part K41v -/
namespace Kx
open PySem PySem.Spec PyProof.Rows L2 My DL
/-- what the law's own numbering holds -/
structure WN where
  o : Str
  b : Int
  u : List (Id' × Dt)
  t : List (Id' × Dt)
def pairD (p : Id' × Dt) : Dt := .tup [idt p.1, p.2]
def WN.dk (n : WN) : List (Key × Dt) := [(.inr "owner", .str n.o), (.inr "next", .int n.b), (.inr "uses", .lst (n.u.map pairD)), (.inr "values", .lst (n.t.map pairD))]
def WN.id (n : WN) : Id' := (n.o, n.b)
def WN.new (n : WN) : WN := { n with b := n.b + 1 }
def WN.use (n : WN) (l : Dt) : WN := { n.new with u := n.u ++ [(n.id, l)] }
def WN.tell (n : WN) (l : Dt) : WN := { n.new with t := n.t ++ [(n.id, l)] }
def WN.leaf (n : WN) : Dt → Dt × WN
  | .tup [_, y] => (.tup [.str "use", idt n.id], n.use y)
  | d => (.tup [.str "number", idt n.id], n.tell d)
def WN.term : WN → Tr → Dt × WN
  | n, .leaf d => n.leaf d
  | n, .op z l r => (.tup [.str z, (n.term l).1, ((n.term l).2.term r).1], ((n.term l).2.term r).2)
def wfW (a : Addr) (R : WN → List Dt → Rs → WN → Prop) : WF SK := ⟨fun ds s k => ∃ (n : WN) (es : List Dt) (r : Rs) (n' : WN), s = n.dk ∧ ds = .ptr a :: es ∧ R n es r n' ∧ k r n'.dk, fun ds s k k' m ⟨n, es, r, n', h1, h2, h3, h⟩ => ⟨n, es, r, n', h1, h2, h3, m _ _ h⟩⟩
def QNew : WN → List Dt → Rs → WN → Prop := fun n es r n' => es = [] ∧ r = .rt (idt n.id) ∧ n' = n.new
def QUse : WN → List Dt → Rs → WN → Prop := fun n es r n' => ∃ l, es = [l] ∧ n.u.length < 900000 ∧ r = .rt (idt n.id) ∧ n' = n.use l
def QTerm (m : Nat) : WN → List Dt → Rs → WN → Prop := fun n es r n' => ∃ t : Tr, es = [t.dt] ∧ Dr m t ∧ n.u.length + 2 ^ (m + 1) ≤ 900000 ∧ n.t.length + 2 ^ (m + 1) ≤ 900000 ∧ r = .rt (n.term t).1 ∧ n' = (n.term t).2
theorem wk_owner (n : WN) : valW n.dk (.inr "owner") = some (.str n.o) := by kernel_rfl
theorem wk_next (n : WN) : valW n.dk (.inr "next") = some (.int n.b) := by kernel_rfl
theorem wk_uses (n : WN) : valW n.dk (.inr "uses") = some (.lst (n.u.map pairD)) := by kernel_rfl
theorem wk_values (n : WN) : valW n.dk (.inr "values") = some (.lst (n.t.map pairD)) := by kernel_rfl
theorem wp_next (n : WN) (i : Int) : putW n.dk (.inr "next") (.int i) = ({ n with b := i } : WN).dk := by kernel_rfl
theorem wp_uses (n : WN) (l : List (Id' × Dt)) : putW n.dk (.inr "uses") (.lst (l.map pairD)) = ({ n with u := l } : WN).dk := by kernel_rfl
theorem wp_values (n : WN) (l : List (Id' × Dt)) : putW n.dk (.inr "values") (.lst (l.map pairD)) = ({ n with t := l } : WN).dk := by kernel_rfl
section
variable {P : Program} {w : World} {K : PySem.W.Frag} {mg : Str → Option Value} {base : Heap} (T : Tx K mg) (a : Addr)
theorem ok_new : FnOk P w K mg base CX0 1 T.f__law_new T.d__law_new ["_law_w"] (spD K (AmK K a) 1 (wfW a QNew)) := by
  refine T.F__law_new.ok sc__law_new (spD_len rfl) (fun cdv A outer s H vs Q E hr h => ?_)
  refine d_body (m := 0) h rfl (s_cons (s_kput (Nat.lt_of_le_of_lt (Nat.add_le_add_left (by decide : 1 ≤ 64) _) hr.units) (pv 0) pe_str (d_bin op_add o_add (d_kget (Nat.lt_of_le_of_lt (Nat.add_le_add_left (by decide : 1 ≤ 64) _) hr.units) (pv 0) pe_str) (d_int pe_int)))
    (s_one (s_ret (d_tup (a_cons (d_kget (Nat.lt_of_le_of_lt (Nat.add_le_add_left (by decide : 1 ≤ 64) _) hr.units) (pv 0) pe_str) (a_cons (d_bin op_sub o_sub (d_kget (Nat.lt_of_le_of_lt (Nat.add_le_add_left (by decide : 1 ≤ 64) _) hr.units) (pv 0) pe_str) (d_int pe_int)) a_nil)))))) (fun ds s k hl hw => ?_)
  obtain ⟨n, es, r, n', rfl, rfl, ⟨rfl, rfl, rfl⟩, q⟩ := hw
  refine seq_run ⟨rfl, optK_is (wk_next n) ⟨rfl, by show 4 < 1000000; decide, ?_⟩⟩
  show (wRet _ : WS SK).f (_, putW n.dk (.inr "next") (.int (n.b + 1))) _
  rw [wp_next]
  refine ⟨rfl, optK_is (wk_owner n.new) ⟨rfl, optK_is (wk_next n.new) ⟨Nat.le_of_ble_eq_true rfl, ?_⟩⟩⟩
  show k (.rt (.tup [.str n.o, .int (n.b + 1 - 1)])) _
  rw [show n.b + 1 - 1 = n.b by omega]
  exact q
theorem cat_pairs (l : List (Id' × Dt)) (p : Id' × Dt) (h : l.length < 900000) : gCat (.lst (l.map pairD)) (.lst [pairD p]) = some (.lst ((l ++ [p]).map pairD)) := by
  show (if (l.map pairD).length + 1 ≤ 1000000 then some (Dt.lst (l.map pairD ++ [pairD p])) else none) = _
  rw [if_pos (by rw [List.length_map]; omega), List.map_append]
  rfl
theorem ok_usew : FnOk P w K mg base CX0 2 T.f__law_use T.d__law_use ["_law_w", "_law_label"] (spD K (AmK K a) 2 (wfW a QUse)) := by
  have G__law_new := ok_new (P := P) (w := w) (base := base) T a
  refine T.F__law_use.ok sc__law_use (spD_len rfl) (fun cdv A outer s H vs Q E hr h => ?_)
  refine d_body (m := 1) h rfl (s_cons (s_set (i := 2) sc__law_use.nd rfl (Or.inl rfl) (d_call (Lens.id (AmK K a)) G__law_new (hr.mono (by decide)) (by rfl) T.g__law_new T.F__law_new.kp T.b__law_new (a_cons (d_var (pv 0)) a_nil) rfl (la_cons la_nil)))
    (s_cons (s_kput (Nat.lt_of_le_of_lt (Nat.add_le_add_left (by decide : 1 ≤ 64) _) hr.units) (pv 0) pe_str (d_bin op_cat o_cat (d_kget (Nat.lt_of_le_of_lt (Nat.add_le_add_left (by decide : 1 ≤ 64) _) hr.units) (pv 0) pe_str) (d_new (n_lst (a_cons (d_tup (a_cons (d_var (pv 2)) (a_cons (d_var (pv 1)) a_nil))) a_nil)))))
    (s_one (s_ret (d_var (pv 2)))))) (fun ds s k hl hw => ?_)
  obtain ⟨n, es, r, n', rfl, rfl, ⟨l, rfl, few, rfl, rfl⟩, q⟩ := hw
  refine setS_run ⟨n, [], _, _, rfl, rfl, ⟨rfl, rfl, rfl⟩, by show 2 < 3; decide, ?_⟩
  refine seq_run ⟨rfl, optK_is (wk_uses n.new) ⟨Nat.le_of_ble_eq_true rfl, Nat.le_of_ble_eq_true rfl, optK_is (cat_pairs n.u (n.id, l) few) ⟨rfl, by show 4 < 1000000; decide, ?_⟩⟩⟩
  show (wRet _ : WS SK).f (_, putW n.new.dk (.inr "uses") (.lst ((n.u ++ [(n.id, l)]).map pairD))) _
  rw [wp_uses]
  exact q
/-- how much a step of the law's numbering adds -/
theorem wleaf_len (n : WN) (d : Dt) : (n.leaf d).2.u.length ≤ n.u.length + 1 ∧ (n.leaf d).2.t.length ≤ n.t.length + 1 := by
  unfold WN.leaf
  split
  · exact ⟨by show (n.u ++ _).length ≤ _; simp, Nat.le_succ _⟩
  · exact ⟨Nat.le_succ _, by show (n.t ++ _).length ≤ _; simp⟩
theorem wterm_len : ∀ (t : Tr) (n : WN), (n.term t).2.u.length ≤ n.u.length + t.size ∧ (n.term t).2.t.length ≤ n.t.length + t.size
  | .leaf d, n => wleaf_len n d
  | .op z l r, n => by
    have h1 := wterm_len l n
    have h2 := wterm_len r (n.term l).2
    show ((n.term l).2.term r).2.u.length ≤ n.u.length + (l.size + r.size + 1) ∧ ((n.term l).2.term r).2.t.length ≤ n.t.length + (l.size + r.size + 1)
    omega
theorem isi_if {S : Type} {τ : En × S} {i : Nat} {d : Dt} {T : String} {b : Bool} {x r : WS S} {k : Rs → En × S → Prop} (e : τ.1[i]? = some (.dat d)) (h : isB d T = some b) (q : if b = true then x.f τ (seqK (fun τ' => r.f τ' k) k) else r.f τ k) : (wSeq (wIfS (wTst (wIsi T (wVar i))) x wNx) r).f τ k := by
  cases b with
  | true => exact isiS_yes e h q
  | false => exact isiS_no e h q
theorem kInt_int (i : Int) : isB (.int i) "int" = some true := by
  show kitB "int" "int" = some true
  decide +kernel
theorem kInt_tup (ds : List Dt) : isB (.tup ds) "int" = some false := by
  show kitB "tuple" "int" = some false
  decide +kernel
set_option maxHeartbeats 4000000 in
theorem st_step {n : Nat} (n1 : 1 ≤ n) {wfP : WF SK} (G__law_sketch_term : FnOk P w K mg base CX0 n T.f__law_sketch_term T.d__law_sketch_term ["_law_w", "_law_term"] (spD K (AmK K a) 2 wfP)) (m : Nat) (m8 : m ≤ 8) (hm : 0 < m → wfP = wfW a (QTerm (m - 1))) :
    FnOk P w K mg base CX0 (n + 1) T.f__law_sketch_term T.d__law_sketch_term ["_law_w", "_law_term"] (spD K (AmK K a) 2 (wfW a (QTerm m))) := by
  have G__law_new := ok_new (P := P) (w := w) (base := base) T a
  refine T.F__law_sketch_term.ok sc__law_sketch_term (spD_len rfl) (fun cdv A outer s H vs Q E hr h => ?_)
  refine d_body (m := 2) h rfl (s_cons (s_if (t_val (d_isi (d_var (pv 1)) (by rfl) T.z_isinstance (pe_bltn (v := .ty "int") (by rfl) T.z_int (by decide +kernel) rfl))) (s_cons (s_set (i := 2) sc__law_sketch_term.nd rfl (Or.inl rfl) (d_call (Lens.id (AmK K a)) G__law_new (hr.mono (by omega)) (by rfl) T.g__law_new T.F__law_new.kp T.b__law_new (a_cons (d_var (pv 0)) a_nil) rfl (la_cons la_nil)))
    (s_cons (s_kput (Nat.lt_of_le_of_lt (Nat.add_le_add_left (by decide : 1 ≤ 64) _) hr.units) (pv 0) pe_str (d_bin op_cat o_cat (d_kget (Nat.lt_of_le_of_lt (Nat.add_le_add_left (by decide : 1 ≤ 64) _) hr.units) (pv 0) pe_str) (d_new (n_lst (a_cons (d_tup (a_cons (d_var (pv 2)) (a_cons (d_var (pv 1)) a_nil))) a_nil)))))
    (s_one (s_ret (d_tup (a_cons (d_str pe_str) (a_cons (d_var (pv 2)) a_nil))))))) s_nil)
    (s_cons (s_if (t_cmp op_eq o_eq (d_ix ix_seq o_ix (d_var (pv 1)) (d_int pe_int) (fun _ _ => rfl)) (d_str pe_str) rfl) (s_cons (s_set (i := 2) sc__law_sketch_term.nd rfl (Or.inl rfl) (d_call (Lens.id (AmK K a)) G__law_new (hr.mono (by omega)) (by rfl) T.g__law_new T.F__law_new.kp T.b__law_new (a_cons (d_var (pv 0)) a_nil) rfl (la_cons la_nil)))
    (s_cons (s_kput (Nat.lt_of_le_of_lt (Nat.add_le_add_left (by decide : 1 ≤ 64) _) hr.units) (pv 0) pe_str (d_bin op_cat o_cat (d_kget (Nat.lt_of_le_of_lt (Nat.add_le_add_left (by decide : 1 ≤ 64) _) hr.units) (pv 0) pe_str) (d_new (n_lst (a_cons (d_tup (a_cons (d_var (pv 2)) (a_cons (d_ix ix_seq o_ix (d_var (pv 1)) (d_int pe_int) (fun _ _ => rfl)) a_nil))) a_nil)))))
    (s_one (s_ret (d_tup (a_cons (d_str pe_str) (a_cons (d_var (pv 2)) a_nil))))))) s_nil)
    (s_cons (s_set (i := 3) sc__law_sketch_term.nd rfl (Or.inl rfl) (d_call (Lens.id (AmK K a)) G__law_sketch_term hr (by rfl) T.g__law_sketch_term T.F__law_sketch_term.kp T.b__law_sketch_term (a_cons (d_var (pv 0)) (a_cons (d_ix ix_seq o_ix (d_var (pv 1)) (d_int pe_int) (fun _ _ => rfl)) a_nil)) rfl (la_cons (la_cons la_nil))))
    (s_one (s_ret (d_tup (a_cons (d_ix ix_seq o_ix (d_var (pv 1)) (d_int pe_int) (fun _ _ => rfl)) (a_cons (d_var (pv 3)) (a_cons (d_call (Lens.id (AmK K a)) G__law_sketch_term hr (by rfl) T.g__law_sketch_term T.F__law_sketch_term.kp T.b__law_sketch_term (a_cons (d_var (pv 0)) (a_cons (d_ix ix_seq o_ix (d_var (pv 1)) (d_int pe_int) (fun _ _ => rfl)) a_nil)) rfl (la_cons (la_cons la_nil))) a_nil))))))))) (fun ds s k hl hw => ?_)
  obtain ⟨v, es, r, v', rfl, rfl, ⟨t, rfl, dr, f1, f2, rfl, rfl⟩, q⟩ := hw
  have p2 : 2 ≤ 2 ^ (m + 1) := Nat.le_self_pow (by omega) 2
  cases dr with
  | num i =>
    refine isiS_yes rfl (kInt_int i) ?_
    refine setS_run ⟨v, [], _, _, rfl, rfl, ⟨rfl, rfl, rfl⟩, by show 2 < 4; decide, ?_⟩
    refine seq_run ⟨rfl, optK_is (wk_values v.new) ⟨Nat.le_of_ble_eq_true rfl, Nat.le_of_ble_eq_true rfl, optK_is (cat_pairs v.t (v.id, (.int i : Dt)) (by omega)) ⟨rfl, by show 4 < 1000000; decide, ?_⟩⟩⟩
    show (wRet _ : WS SK).f (_, putW v.new.dk (.inr "values") (.lst ((v.t ++ [(v.id, (.int i : Dt))]).map pairD))) _
    rw [wp_values]
    exact ⟨Nat.le_of_ble_eq_true rfl, q⟩
  | use i =>
    refine isiS_no rfl (kInt_tup _) (kwS_yes rfl rfl ?_)
    refine setS_run ⟨v, [], _, _, rfl, rfl, ⟨rfl, rfl, rfl⟩, by show 2 < 4; decide, ?_⟩
    refine seq_run ⟨rfl, optK_is (wk_uses v.new) ⟨Nat.le_of_ble_eq_true rfl, Nat.le_of_ble_eq_true rfl, optK_is (cat_pairs v.u (v.id, idt i) (by omega)) ⟨rfl, by show 4 < 1000000; decide, ?_⟩⟩⟩
    show (wRet _ : WS SK).f (_, putW v.new.dk (.inr "uses") (.lst ((v.u ++ [(v.id, idt i)]).map pairD))) _
    rw [wp_uses]
    exact ⟨Nat.le_of_ble_eq_true rfl, q⟩
  | @op j z lt rt hz hl2 hr2 =>
    have hp := hm (Nat.succ_pos j)
    subst hp
    have w1 := wterm_len lt v
    have sz := hl2.size
    have e2 : 2 ^ (j + 1 + 1) = 2 ^ (j + 1) + 2 ^ (j + 1) := by rw [Nat.pow_succ]; omega
    have ns : signs.contains z = true := List.contains_iff_mem.mpr hz
    refine isiS_no rfl (kInt_tup _) (kwS_no rfl (fun e => by rw [e] at ns; exact absurd ns (by decide +kernel)) ?_)
    refine setS_run ⟨v, [lt.dt], _, _, rfl, rfl, ⟨lt, rfl, hl2, by show v.u.length + 2 ^ (j + 1) ≤ 900000; omega, by show v.t.length + 2 ^ (j + 1) ≤ 900000; omega, rfl, rfl⟩, by show 3 < 4; decide, ?_⟩
    exact ⟨(v.term lt).2, [rt.dt], _, _, rfl, rfl, ⟨rt, rfl, hr2, by show (v.term lt).2.u.length + 2 ^ (j + 1) ≤ 900000; omega, by show (v.term lt).2.t.length + 2 ^ (j + 1) ≤ 900000; omega, rfl, rfl⟩, Nat.le_of_ble_eq_true rfl, q⟩
theorem fn_noW {k n : Nat} {f : Addr} {fd : FuncData} {ps : List Str} {S : Type} {A : Am S} : FnOk P w K mg base CX0 k f fd ps (spD K A n ⟨fun _ _ _ => False, fun _ _ _ _ _ h => h⟩) :=
  ⟨fun vs H Q E ⟨_, _, _, _, _, _, _, _, h⟩ => h.elim, fun A outer s H args us vs Q E _ _ _ _ ⟨_, _, _, _, _, _, _, _, h⟩ => h.elim⟩
theorem ok_sketch_term : ∀ m : Nat, m ≤ 8 → FnOk P w K mg base CX0 (2 + m) T.f__law_sketch_term T.d__law_sketch_term ["_law_w", "_law_term"] (spD K (AmK K a) 2 (wfW a (QTerm m)))
  | 0, h8 => st_step T a (n := 1) (Nat.le_refl _) fn_noW 0 h8 fun h => absurd h (by decide)
  | m + 1, h8 => st_step T a (n := 2 + m) (by omega) (ok_sketch_term m (by omega)) (m + 1) h8 fun _ => rfl
end
end Kx
/-! part DL34 -/
namespace DL
open PySem PySem.Spec PyProof.Rows L2 My
/-! ### things of one's own given to another def -/
section
variable {S : Type} {K : PySem.W.Frag} {A : Am S} {F : Addr → Prop} {H0 : Hp} {O : Nat → Addr} {σ : L2.St} {H H' : Hp} {τ : En × S}
/-- behind a call that may change the thing of slot i -/
theorem Stt.callO (st : Stt K A F H0 O σ H τ) {i : Nat} {c0 c : Cn} {o : HO} (h : τ.1[i]? = some (.own c0)) (hat : H' (O i) = some o) (x : CnX K (hidP (hidn F O τ.1) H') o c) (ev : ∀ b u, H b = some u → b ≠ O i → H' b = some u) :
    Stt K A F H0 O σ H' (putSl τ i (.own c)) ∧ Keep F O τ.1 H O (putSl τ i (.own c)).1 H' := by
  obtain ⟨ow, g1, g2, g3, g4⟩ := st.own i c0 h
  have nf := st.noFoot h
  have hO : hidn F O τ.1 (O i) := .inr ⟨i, c0, h, rfl⟩
  have kp : Kp (hidn F O τ.1) H (hidn F O (putSl τ i (.own c)).1) H' := fun b u e n => by
    have ne : b ≠ O i := fun z => n (by rw [z]; exact hO)
    refine ⟨fun k => ?_, ev b u e ne⟩
    rcases k with k | ⟨j, fs, k, z⟩
    · exact n (.inl k)
    · rcases set_some k with ⟨rfl, _⟩ | ⟨nj, z1⟩
      · exact ne z.symm
      · exact n (.inr ⟨j, fs, z1, z⟩)
  have sh := kp.same
  have back : ∀ b, hidn F O (putSl τ i (.own c)).1 b → hidn F O τ.1 b := fun b k => by
    rcases k with k | ⟨j, fs, k, z⟩
    · exact .inl k
    · rcases set_some k with ⟨rfl, _⟩ | ⟨nj, z1⟩
      · exact .inr ⟨i, c0, h, z⟩
      · exact .inr ⟨j, fs, z1, z⟩
  refine ⟨⟨A.move _ _ _ _ _ st.am kp fun b u e f => ev b u e fun z => nf (by rw [← z]; exact f), st.am0, st.fin, st.fex, fun b u e n t => ?_, fun j e k => ?_, fun j fs k => ?_, fun j k fs gs h1 h2 e => ?_, ?_⟩, sh⟩
  · refine ev b u (st.ev b u e n t) fun z => ?_
    rw [z, g2] at e
    cases e
  · rcases set_some k with ⟨_, z⟩ | ⟨n, z⟩
    · cases z
    · obtain ⟨u, h1, h2⟩ := st.dat j e z
      exact ⟨u, h1, h2.same sh⟩
  · rcases set_some k with ⟨rfl, z⟩ | ⟨n, z⟩
    · cases z
      exact ⟨o, g1, g2, hat, x.same (hidP_same fun b u e _ m => ⟨fun k => m (back b k), e⟩)⟩
    · obtain ⟨zs, h1, h2, h3, h4⟩ := st.own j fs z
      exact ⟨zs, h1, h2, ev _ _ h3 fun y => n (st.inj j i fs c0 z h y).symm, h4.same sh⟩
  · have old : ∀ (m : Nat) (ys : Cn), (putSl τ i (.own c)).1[m]? = some (.own ys) → ∃ zs, τ.1[m]? = some (.own zs) := fun m ys k => by
      rcases set_some k with ⟨rfl, _⟩ | ⟨_, z⟩
      · exact ⟨c0, h⟩
      · exact ⟨ys, z⟩
    obtain ⟨z1, k1⟩ := old j fs h1
    obtain ⟨z2, k2⟩ := old k gs h2
    exact st.inj j k z1 z2 k1 k2 e
  · show (τ.1.set i _).length = _
    rw [List.length_set, st.len]
/-- slot i, a dict with texts as keys -/
def ownD (τ : En × S) (i : Nat) (k : List (Key × Dt) → Prop) : Prop := match τ.1[i]? with
  | some (.own (.dk ps)) => k ps
  | _ => False
theorem ownD_some {τ : En × S} {i : Nat} {k : List (Key × Dt) → Prop} (h : ownD τ i k) : ∃ ps, τ.1[i]? = some (.own (.dk ps)) ∧ k ps := by
  unfold ownD at h
  split at h
  · exact ⟨_, by assumption, h⟩
  · exact h.elim
theorem ownD_mono {τ : En × S} {i : Nat} {k k' : List (Key × Dt) → Prop} (m : ∀ ps, k ps → k' ps) (h : ownD τ i k) : ownD τ i k' := by
  obtain ⟨ps, e, h⟩ := ownD_some h
  unfold ownD
  rw [e]
  exact m _ h
/-- slot i, a dict with tuples as keys -/
def ownT (τ : En × S) (i : Nat) (k : List (List Key × Dt) → Prop) : Prop := match τ.1[i]? with
  | some (.own (.dt ps)) => k ps
  | _ => False
theorem ownT_some {τ : En × S} {i : Nat} {k : List (List Key × Dt) → Prop} (h : ownT τ i k) : ∃ ps, τ.1[i]? = some (.own (.dt ps)) ∧ k ps := by
  unfold ownT at h
  split at h
  · exact ⟨_, by assumption, h⟩
  · exact h.elim
theorem ownT_mono {τ : En × S} {i : Nat} {k k' : List (List Key × Dt) → Prop} (m : ∀ ps, k ps → k' ps) (h : ownT τ i k) : ownT τ i k' := by
  obtain ⟨ps, e, h⟩ := ownT_some h
  unfold ownT
  rw [e]
  exact m _ h
theorem fn_any {P : Program} {w : World} {K : PySem.W.Frag} {mg : Str → Option Value} {base : Heap} {CX : CXT} {k : Nat} {f : Addr} {fd : FuncData} {ps : List Str} {I : Type} {sp : I → Sp} (Fn : ∀ i, FnOk P w K mg base CX k f fd ps (sp i)) : FnOk P w K mg base CX k f fd ps (fun vs H Q E => ∃ i, sp i vs H Q E) :=
  ⟨fun vs H Q E ⟨i, h⟩ => (Fn i).len _ _ _ _ h, fun A outer s H args us vs Q E hr he hb hv ⟨i, h⟩ => (Fn i).run A outer s H args us vs Q E hr he hb hv h⟩
/-- f(x, e, ..), x a dict of one's own -/
def wCallO (i : Nat) (wf : Addr → WF SK) (a : WA S) : WE S := ⟨fun τ k => ownD τ i fun _ => a.f τ fun ds τ1 => ownD τ1 i fun ps => ∀ p : Addr, (wf p).f (.ptr p :: ds) ps (ansK fun d ps' => ps'.length ≤ 1000000 ∧ k d (putSl τ1 i (.own (.dk ps')))),
  fun τ k k' m h => ownD_mono (fun _ h => a.mono _ _ _ (fun ds τ1 h1 => ownD_mono (fun ps h2 p => (wf p).mono _ _ _ _ (ansK_mono fun d ps' h3 => ⟨h3.1, m _ _ h3.2⟩) (h2 p)) h1) h) h⟩
variable {X : Cx} {e : Expr} {es : List Expr} {pos p xp : Pos} {x y : Str} {k n i : Nat} {f : Addr} {fd : FuncData} {ps : List Str} {wf : Addr → WF SK} {wa : WA S}
theorem d_callO (Fn : ∀ a, FnOk X.prog X.w X.K X.mg X.base CX0 k f fd ps (spD K (AmK K a) n (wf a))) (hr : Room k X.A) (hg : Gl X x) (hm : X.mg x = some (.ref f)) (hk : PySem.W.keepIn X.K (.ref f) = true) (hb : Binds X.K fd ps []) (hv : PE X e (tVar i)) (ha : PA X es (tAs K A wa)) (hn : es.length + 1 = n)
    (hl : ∀ τ k, wa.f τ k → wa.f τ fun ds τ1 => ds.length = es.length ∧ k ds τ1)
    (hdb : (x == ("__debug__" : Str)) = false := by decide) (he : starEach (e :: es) X.env = (false, eval e X.env) :: starEach es X.env := by rfl) (hpl : (backTo pos (starEach es X.env)).any (·.1) = false := by rfl) : PE X (.Call (.Name x p) (e :: es) [] pos) (tE K A (wCallO i wf wa)) :=
  PE.imp (pe_call (E := fun _ _ _ => False) (fn_any Fn) hr hg hm hk hb .nil pass0 (pa_cons hv ha he) hdb he hpl) fun σ H Q ⟨F, H0, O, τ, s0, q⟩ => by
    obtain ⟨ps0, h0, q⟩ := ownD_some q
    obtain ⟨u0, g0, _, _, _⟩ := s0.own i _ h0
    refine ⟨_, g0, bindA s0 (hl _ _ q) fun H1 vs O1 ds τ1 s1 k1 x1 ⟨l1, q1⟩ => ?_⟩
    obtain ⟨ps1, h1, q1⟩ := ownD_some q1
    obtain ⟨o1, g1, n1, e1, c1⟩ := s1.own i _ h1
    have eo : O1 i = O i := by
      rw [g0] at g1
      injection g1 with g1
      injection g1 with g1
      injection g1 with g1
      exact g1.symm
    rw [List.append_nil, ← eo]
    cases c1 with
    | @dk kvs _ lk xk =>
    have hO : hidn F O1 τ1.1 (O1 i) := .inr ⟨i, _, h1, rfl⟩
    refine ⟨O1 i, hidn F O1 τ1.1, ps1, .ptr (O1 i) :: ds, by rw [List.length_cons, x1.len, l1, hn], ⟨kvs, e1, lk, xk⟩, fun a f => by rw [show a = O1 i from f]; exact hO, fun a h => s1.ex h, .cons DX.ptrM x1, (wf (O1 i)).mono _ _ _ _ (fun r ps' h => ?_) (q1 (O1 i))⟩
    have fin : ∀ (H' : Hp), (AmK K (O1 i)).at_ ps' (hidn F O1 τ1.1) H' → EvA (AmK K (O1 i)) H1 H' → Stt K A F H0 O1 σ H' (putSl τ1 i (.own (.dk ps'))) ∧ Keep F O1 τ1.1 H1 O1 (putSl τ1 i (.own (.dk ps'))).1 H' := fun H' am ev => by
      obtain ⟨kv, e, l, x⟩ := am
      exact s1.callO h1 e (.dk l x) fun b u e n => ev b u e n fun t => t
    have vis : ∀ {H' : Hp}, Same (hidP (hidn F O1 τ1.1) H') (hidP (hidn F O1 (putSl τ1 i (.own (.dk ps'))).1) H') := hidP_same fun b u e _ n => ⟨fun k => n (by
      rcases k with k | ⟨j, fs, k, z⟩
      · exact .inl k
      · rcases set_some k with ⟨rfl, _⟩ | ⟨nj, z1⟩
        · exact .inr ⟨i, _, h1, z⟩
        · exact .inr ⟨j, fs, z1, z⟩), e⟩
    cases r with
    | nx => exact fun H' am e => let ⟨s2, k2⟩ := fin H' am e; h.2 H' .non O1 s2 (k1.trans k2) .non
    | rt d => exact fun H' v am e x => let ⟨s2, k2⟩ := fin H' am e; h.2 H' v O1 s2 (k1.trans k2) (x.same vis)
    | rl c =>
      exact fun H' a o am e n0 ea x =>
        let ⟨s2, k2⟩ := fin H' ((AmK K (O1 i)).move _ _ _ _ _ am (fun b o e n => ⟨fun z => n (.inl z), e⟩) fun _ _ e _ => e) e
        h.2 H' (.ref a) O1 s2 (k1.trans k2) (((x.same (hidP_same fun b o e _ n => ⟨fun h => n (.inl h), e⟩)).data (hidP_mk (s1.fresh n0) ea x.hd.ntb)).same vis)
    | bk => exact h.elim
    | ct => exact h.elim
end
end DL
/-! part DL35 -/
namespace DL
open PySem PySem.Spec PyProof.Rows L2 My
/-! ### dict(a list of pairs), the keys flat tuples -/
inductive PairsAt (H : Hp) : List V → List (List Key × V) → Prop
  | nil : PairsAt H [] []
  | cons {t b : Addr} {k : List Key} {v : V} {ts : List V} {kvs : List (List Key × V)} : H t = some (.tup [.ref b, v]) → H b = some (.tup (k.map kV)) → PairsAt H ts kvs → PairsAt H (.ref t :: ts) ((k, v) :: kvs)
def putAll (kvs : List (List Key × V)) : List (List Key × V) := kvs.foldl (fun acc p => putK acc p.1 p.2) []
theorem kt_all {H : Hp} : ∀ {kvs : List (List Key × V)} {ps : List (List Key × Addr × Value)} {acc : List (List Key × V)} {xs : List (List Key × Addr × Value)}, KT H kvs ps → KT H acc xs → KT H (kvs.foldl (fun acc p => putK acc p.1 p.2) acc) (storedAllH xs ps) := by
  intro kvs ps acc xs r
  unfold KT at r
  induction r generalizing acc xs with
  | nil => intro h; exact h
  | @cons p q ps qs h t ih =>
    intro h0
    have e : KT H (putK acc p.1 p.2) (storedH xs q.1 q.2.1 q.2.2) := by
      have z := h0.put p.1 h.2.1 h.2.2
      rw [← h.1]
      exact z
    exact ih e
theorem putAll_len : ∀ (kvs acc : List (List Key × V)), (kvs.foldl (fun acc p => putK acc p.1 p.2) acc).length ≤ acc.length + kvs.length
  | [], acc => Nat.le_refl _
  | p :: r, acc => by
    have h1 := putAll_len r (putK acc p.1 p.2)
    have h2 := putK_len' acc p.1 p.2
    rw [List.length_cons]
    show ((r.foldl (fun acc p => putK acc p.1 p.2) (putK acc p.1 p.2))).length ≤ _
    omega
section
variable {X : Cx} {pins : List (Addr × Obj)} {σ : L2.St} {H : Hp} {s : Shared}
theorem pairs_at (I : Inv X pins σ H s) : ∀ {ts : List V} {kvs : List (List Key × V)} {its : List Value}, PairsAt H ts kvs → Vals ts its → ∃ (ps : List (List Key × Addr × Value)) (tl : List Addr), its = tl.map Value.ref ∧ KT H kvs ps ∧ tl.length = ps.length ∧ (∀ (j : Nat) (x : List Key × Addr × Value), ps[j]? = some x → ∃ t, tl[j]? = some t ∧ PairAt s.heap t (.ref x.2.1) x.2.2) ∧ ∀ x ∈ ps, H x.2.1 = some (.tup (x.1.map kV))
  | _, _, _, .nil, r => by
    cases r
    exact ⟨[], [], rfl, .nil, rfl, (fun j x h => by simp at h), fun x hx => nomatch hx⟩
  | _, _, _, .cons (t := t) (b := b) (k := k) (v := v) h1 h2 pa, r => by
    cases r with
    | cons r1 r2 =>
      cases r1
      obtain ⟨ps, tl, rfl, kt, l, at_, ks⟩ := pairs_at I pa r2
      obtain ⟨_, its, rv, o, e1, e2, n, e3⟩ := (show ObjOk X.prog X.w H s.heap t (.tup [.ref b, v]) from I.hok t _ h1)
      obtain ⟨u, rfl, ru⟩ : ∃ u, its = [.ref b, u] ∧ RelV v u := by
        cases rv with
        | cons a1 a2 =>
          cases a1
          cases a2 with
          | cons a3 a4 =>
            cases a4
            exact ⟨_, rfl, a3⟩
      refine ⟨(k, b, u) :: ps, t :: tl, rfl, .cons ⟨rfl, h2, ru⟩ kt, by rw [List.length_cons, List.length_cons, l], fun j x h => ?_, fun x hx => ?_⟩
      · cases j with
        | zero =>
          cases h
          exact ⟨t, rfl, .inl ⟨o, e1, e2, n, e3⟩⟩
        | succ j => exact at_ j x (by simpa using h)
      · rcases List.mem_cons.mp hx with rfl | hx
        · exact h2
        · exact ks x hx
theorem cr_dictP (hc : X.calm = true) (hu : X.A.units + 2 < cLine) : CallR X (.type "dict") (fun xs H Q => ∃ (p : Addr) (ts : List V) (kvs : List (List Key × V)), xs = [.ref p] ∧ H p = some (.lst ts) ∧ PairsAt H ts kvs ∧ ∀ d, H d = none → Q (.ref d) (upd H d (.dT (putAll kvs)))) := by
  intro pins s σ H xs us Q I r h
  obtain ⟨p, ts, kvs, rfl, hp, pa, q⟩ := h
  obtain ⟨u, rfl, ru⟩ := vals1 r
  cases ru
  obtain ⟨z, its, n, rv, e⟩ := (show ObjOk X.prog X.w H s.heap p (.lst ts) from I.hok p _ hp)
  obtain ⟨ps, tl, rfl, kt, l, at_, ks⟩ := pairs_at I pa rv
  have lk : kvs.length = ps.length := Paired.length kt
  have lt : ts.length = ps.length := by rw [rv.length, List.length_map, l]
  have ok : PlainSeq "list" s.heap p (tl.map Value.ref).toArray ∧ PairItems s.heap (tl.map Value.ref).toArray (fun j => tl.getD j 0) (ps.map fun x => (Value.ref x.2.1, x.2.2)) := by
    refine ⟨⟨_, n, e, rfl, rfl, rfl⟩, by rw [List.size_toArray, List.length_map, List.length_map, l], fun j k v hj => ?_⟩
    rw [List.getElem?_map] at hj
    obtain ⟨x, hx, ex⟩ := Option.map_eq_some_iff.mp hj
    cases ex
    obtain ⟨t, ht, pt⟩ := at_ j x hx
    have g : tl.getD j 0 = t := by rw [List.getD_eq_getElem?_getD, ht]; rfl
    refine ⟨?_, ?_⟩
    · rw [List.getElem?_toArray, List.getElem?_map, ht]
      show some (Value.ref t) = some (Value.ref (tl.getD j 0))
      rw [g]
    · show PairAt s.heap (tl.getD j 0) _ _
      rw [g]
      exact pt
  have hh : X.A.handled = none := I.ok.hd hc
  refine call_dict_pairsH (knd := tupleKind (mixKind X.prog X.w)) (ps := ps) (PairArg.list p (tl.map Value.ref).toArray (fun j => tl.getD j 0) (ps.map fun x => (Value.ref x.2.1, x.2.2))) hh (by show X.A.units + 1 + 1 < cLine; omega) ok ⟨by rw [List.length_map], fun i key v hr => ?_⟩ (fun h' hk x hx => ?_) (by rw [List.length_map, ← lt]; exact z) fun h' tk hd hk => ?_
  · have hr : (ps.map fun x => (Value.ref x.2.1, x.2.2))[i]? = some (key, v) := hr
    rw [List.getElem?_map] at hr
    obtain ⟨x, hx, ex⟩ := Option.map_eq_some_iff.mp hr
    cases ex
    exact ⟨x.1, x.2.1, hx, rfl⟩
  · obtain ⟨o, its, n, h1, h2, h3, h4⟩ := key_of I.hok (ks x hx)
    exact ⟨o, its, n, hk _ _ (Nat.ne_of_lt (Heap.lt_size h1)) (by simp) h1, h2, h3, h4⟩
  · have fr : H s.heap.objs.size = none := I.hok.fresh (Nat.le_refl _)
    obtain ⟨o, es, ep, ho, hc', hd', he, _, hn⟩ := hd
    refine ⟨.ref s.heap.objs.size, _, I.laid (a := s.heap.objs.size) (o := .dT (putAll kvs)) (h' := h') (t' := tk) (fun b u z => hk b u (by simp) z) (Nat.le_refl _) ?_, rfl, q _ fr⟩
    have ln := putAll_len kvs []
    refine ⟨by unfold putAll; rw [List.length_nil] at ln; omega, beq_eq_false_iff_ne.mpr (Ne.symm (Nat.ne_of_lt I.big)), storedAllH [] ps, ?_, o, es, ep, ho, hc', hd', he, hn⟩
    exact (kt_all kt (.nil : KT H [] [])).keeps fun b ys e => by rw [upd_ne (ne_of_none e fr)]; exact e
end
end DL
/-! part DL36 -/
namespace DL
open PySem PySem.Spec PyProof.Rows L2 My
/-! ### .. as data -/
def pairsD : List Dt → Option (List (List Key × Dt))
  | [] => some []
  | .tup [k, v] :: r => match keyD k, pairsD r with
    | some ks, some ps => some ((ks, v) :: ps)
    | _, _ => none
  | _ => none
def putTAll (ps : List (List Key × Dt)) : List (List Key × Dt) := ps.foldl (fun acc p => putT acc p.1 p.2) []
theorem pairs_data {K : PySem.W.Frag} {P : Addr → Prop} {H : Hp} : ∀ {vs : List V} {ds : List Dt} {ps : List (List Key × Dt)}, DXs K (hidP P H) vs ds → pairsD ds = some ps → ∃ kvs, PairsAt H vs kvs ∧ DXt K (hidP P H) kvs ps
  | _, _, _, .nil, h => by
    cases h
    exact ⟨[], .nil, .nil⟩
  | _, _, _, .cons (d := d) (ds := ds) x y, h => by
    unfold pairsD at h
    split at h
    · rename_i z
      cases z
    · rename_i k v r z
      cases z
      cases x with
      | @tup a us _ t1 t2 t3 =>
      cases t3 with
      | @cons ku _ _ _ xk t4 =>
      cases t4 with
      | @cons vu _ _ _ xv t5 =>
      cases t5
      split at h
      · rename_i ks ps e1 e2
        cases h
        obtain ⟨b, rfl, hb⟩ := keyAt xk e1
        obtain ⟨kvs, p1, p2⟩ := pairs_data y e2
        exact ⟨(ks, vu) :: kvs, .cons (hidP_less _ _ t1) (hidP_less _ _ hb) p1, .cons xv p2⟩
      · cases h
    · cases h
theorem dxt_all {K : PySem.W.Frag} {H : Hp} : ∀ {kvs : List (List Key × V)} {ps : List (List Key × Dt)}, DXt K H kvs ps → ∀ {acc : List (List Key × V)} {as : List (List Key × Dt)}, DXt K H acc as → DXt K H (kvs.foldl (fun acc p => putK acc p.1 p.2) acc) (ps.foldl (fun acc p => putT acc p.1 p.2) as)
  | _, _, .nil, _, _, h => h
  | _, _, .cons x r, _, _, h => dxt_all r (h.put x)
def gDictP : List Dt → Option Dt
  | [.lst ds] => (pairsD ds).map fun ps => .dct (putTAll ps)
  | _ => none
theorem o_dictP {K : PySem.W.Frag} : OpN K (fun xs H Q => ∃ (p : Addr) (ts : List V) (kvs : List (List Key × V)), xs = [.ref p] ∧ H p = some (.lst ts) ∧ PairsAt H ts kvs ∧ ∀ d, H d = none → Q (.ref d) (upd H d (.dT (putAll kvs)))) gDictP := fun P xs ds c H Q nP hx h q => by
  match ds, hx, h with
  | [.lst es], hx, h =>
    obtain ⟨v, rfl, x⟩ := hx.one
    obtain ⟨ps, hp, rfl⟩ := Option.map_eq_some_iff.mp h
    obtain ⟨p, vs, rfl, h1, _, h3⟩ := x.lstI
    obtain ⟨kvs, k1, k2⟩ := pairs_data h3 hp
    refine ⟨p, vs, kvs, rfl, hidP_less _ _ h1, k1, fun d nd => q _ _ (same_new nd _) ?_⟩
    have sm : Same (hidP P H) (hidP P (upd H d (.dT (putAll kvs)))) := hidP_same fun b o e _ n => ⟨n, same_new nd _ b o e⟩
    exact .dct (hidP_mk (nP d nd) upd_same fun ps z => nomatch z) ((dxt_all k2 (.nil : DXt K (hidP P H) [] [])).same sm)
/-! ### things of one's own: read, changed -/
section
variable {S : Type} {X : Cx} {K : PySem.W.Frag} {A : Am S} {o ik value e : Expr} {z : Str} {pos pos' p cpos : Pos} {i j : Nat} {w wk wv : WE S}
/-- x['z'], x of one's own -/
def wOKget (i : Nat) (z : Str) : WE S := ⟨fun τ k => ownD τ i fun ps => optK (valW ps (.inr z)) fun d => k d τ, fun τ k k' m h => ownD_mono (fun ps h => optK_mono (fun d => m d τ) h) h⟩
theorem d_okget (hu : X.A.units + 1 < cLine) (hv : PE X o (tVar i)) (hk : PE X ik (tC (.str z))) (hs : NoSl ik := by exact fun _ _ => rfl) : PE X (.Subscript o ik pos) (tE K A (wOKget i z)) :=
  PE.imp (pe_dget hu hv hk hs) fun σ H Q ⟨F, H0, O, τ, s0, q⟩ => by
    obtain ⟨ps, h0, q⟩ := ownD_some q
    obtain ⟨d, hd, q⟩ := some_of q
    obtain ⟨ob, g1, _, g2, c⟩ := s0.own i _ h0
    cases c with
    | @dk kvs _ l x =>
    have w := valW_x (.inr z) x
    rw [hd] at w
    generalize hg : valV kvs (.inr z : Key) = ov at w
    cases w with
    | some xx => exact ⟨_, g1, O i, _, rfl, by rw [← hg]; exact DGet.k (k := .inr z) g2, q H _ O s0 (Same.refl _) xx⟩
/-- x[k] = e, x of one's own -/
def wOTput (i : Nat) (wk wv : WE S) : WS S := ⟨fun τ k => wv.f τ fun v τ1 => ownT τ1 i fun _ => wk.f τ1 fun kd τ2 => ownT τ2 i fun ps => optKs (keyD kd) fun ks => ps.length < 1000000 ∧ k .nx (putSl τ2 i (.own (.dt (putT ps ks v)))),
  fun τ k k' m h => wv.mono _ _ _ (fun v τ1 h1 => ownT_mono (fun _ h2 => wk.mono _ _ _ (fun kd τ2 h3 => ownT_mono (fun ps h4 => optKs_mono (fun ks h5 => ⟨h5.1, m _ _ h5.2⟩) h4) h3) h2) h1) h⟩
theorem s_oput (hu : X.A.units + 1 < cLine) (hv : PE X o (tVar i)) (hk : PE X ik (tE K A wk)) (he : PE X value (tE K A wv)) (hs : swapsWith value (some (.Subscript o ik pos')) pos.line X.env = pure false := by rfl) : PS X (.Assign [.Subscript o ik pos'] value pos) (tS K A (wOTput i wk wv)) :=
  PS.imp (ps_dput hu hv hk he hs) fun D σ H ⟨F, H0, O, τ, s0, q⟩ => bindE s0 q fun H1 v O1 d τ1 s1 k1 x1 q1 => by
    obtain ⟨ps1, h1, q1⟩ := ownT_some q1
    obtain ⟨ob1, g1, _, _, _⟩ := s1.own i _ h1
    refine ⟨_, g1, bindE s1 q1 fun H2 kv O2 kd τ2 s2 k2 x2 q2 => ?_⟩
    obtain ⟨ps, h2, q2⟩ := ownT_some q2
    obtain ⟨ks, ek, lt, q2⟩ := optKs_some q2
    obtain ⟨ob, g2, _, e2, c⟩ := s2.own i _ h2
    have eo : O2 i = O1 i := by
      rw [g1] at g2
      injection g2 with g2
      injection g2 with g2
      injection g2 with g2
      exact g2.symm
    cases c with
    | @dt kvs _ l x =>
    obtain ⟨b, rfl, hb⟩ := keyAt x2 ek
    have lv := x.len
    obtain ⟨s3, k3⟩ := s2.putOwn (c := .dt (putT ps ks d)) (o := .dT (putK kvs ks v)) h2 (.dt (by have := putK_len' kvs ks v; omega) (x.put (x1.same k2)))
    exact ⟨O1 i, _, rfl, by rw [← eo]; exact DPut.t e2 (hidP_less _ _ hb) (by unfold sizeLine; omega), q2 σ _ O2 s3 (k1.trans (k2.trans k3))⟩
/-- x[e], x a list of one's own -/
def wOIx (i : Nat) (w : WE S) : WE S := ⟨fun τ k => ownK τ i fun _ => w.f τ fun d τ1 => ownK τ1 i fun ds => optK (gIx (.lst ds) d) fun r => k r τ1, fun τ k k' m h => ownK_mono (fun _ h => w.mono _ _ _ (fun d τ1 h1 => ownK_mono (fun ds h2 => optK_mono (fun r => m r τ1) h2) h1) h) h⟩
theorem d_oix (hv : PE X o (tVar i)) (he : PE X e (tE K A w)) (hs : PlainIx e) (hK : X.K = K := by rfl) : PE X (.Subscript o e pos) (tE K A (wOIx i w)) := by
  subst hK
  refine PE.imp (pe_ix ix_seq hv he hs) fun σ H Q ⟨F, H0, O, τ, s0, q⟩ => ?_
  obtain ⟨ds0, h0, q⟩ := ownK_some q
  obtain ⟨vs0, g0, _, _, _, _⟩ := s0.ownL h0
  refine ⟨_, g0, bindE s0 q fun H1 v O1 d τ1 s1 k1 x1 q1 => ?_⟩
  obtain ⟨ds, h1, q1⟩ := ownK_some q1
  obtain ⟨r, hr, q2⟩ := some_of q1
  obtain ⟨vs, g1, _, e1, _, y1⟩ := s1.ownL h1
  have eo : O1 i = O i := by
    rw [g0] at g1
    injection g1 with g1
    injection g1 with g1
    injection g1 with g1
    exact g1.symm
  cases d with
  | int n =>
    obtain rfl := x1.intI
    obtain ⟨u, hu, xu⟩ := atI_rel y1 (show atI ds n = some r from hr)
    exact .inl ⟨O i, vs, n, u, rfl, rfl, .inl (.inl (by rw [← eo]; exact e1)), hu, q2 H1 u O1 s1 k1 xu⟩
  | _ => cases hr
/-- tuple(x), x a list of one's own -/
def wTupO (i : Nat) : WE S := ⟨fun τ k => ownK τ i fun ds => k (.tup ds) τ, fun τ k k' m h => ownK_mono (fun ds h => m _ _ h) h⟩
theorem d_tupO (hgl : Gl X "tuple") (hm : X.mg "tuple" = none) (hv : PE X o (tVar i)) (hK : X.K = K := by rfl)
    (he : starEach [o] X.env = (false, eval o X.env) :: starEach [] X.env := by rfl) (hpl : (backTo pos (starEach [] X.env)).any (·.1) = false := by rfl) : PE X (.Call (.Name "tuple" p) [o] [] pos) (tE K A (wTupO i)) := by
  subst hK
  refine PE.imp (pe_callTy call_tuple_of hgl hm (by decide +kernel) (pa_cons hv pa_nil he) (he := he) (hpl := hpl)) fun σ H Q ⟨F, H0, O, τ, s0, q⟩ => ?_
  obtain ⟨ds, h0, q⟩ := ownK_some q
  obtain ⟨vs, g0, _, e0, l0, y0⟩ := s0.ownL h0
  refine ⟨_, g0, O i, vs, rfl, .inl ⟨.inl (.inl e0), fun r nr => ?_⟩⟩
  have sm := same_new nr (.tup vs)
  have sh := keepS (F := F) (O := O) (ρ := τ.1) sm
  exact q _ _ O (s0.grow sm) sh (.tup (hidP_mk (s0.fresh nr) upd_same fun ps z => nomatch z) l0 (y0.same sh))
/-- x, y = {}, None -/
def wParDN (i j : Nat) : WS S := ⟨fun τ k => i < τ.1.length ∧ j < τ.1.length ∧ k .nx ((τ.1.set i (.own (.dt []))).set j (.dat .non), τ.2), fun τ k k' m h => ⟨h.1, h.2.1, m _ _ h.2.2⟩⟩
theorem s_parDN {x y : Str} {b : Expr} {px py pt dp : Pos} {kt k2 pt2} (hc : X.calm = true) (hN : X.N.Nodup) (hi : X.N[i]? = some x) (hj : X.N[j]? = some y) (hij : i ≠ j)
    (hx : X.env.scope.names.lookup x = some .local) (hy : X.env.scope.names.lookup y = some .local) (hb : PE X b (tC .non))
    (hw : swappedStores [.Tuple [.Name x px, .Name y py] kt pt] (.Tuple [.Dict [] [] dp, b] k2 pt2) X.env = pure (some [x, y]))
    (hs : swapsWithSole [.Tuple [.Name x px, .Name y py] kt pt] (.Tuple [.Dict [] [] dp, b] k2 pt2) pos.line X.env = pure false := by rfl)
    (h1 : starEach (.Dict [] [] dp :: [b]) X.env = (false, eval (.Dict [] [] dp) X.env) :: starEach [b] X.env := by rfl) (h2 : starEach [b] X.env = (false, eval b X.env) :: starEach [] X.env := by rfl) :
    PS X (.Assign [.Tuple [.Name x px, .Name y py] kt pt] (.Tuple [.Dict [] [] dp, b] k2 pt2) pos) (tS K A (wParDN i j)) :=
  PS.imp (ps_par hc hN hi hj hij hx hy (pa_cons pe_dnewT (pa_cons hb pa_nil h2) h1) hw hs) fun D σ H ⟨F, H0, O, τ, s0, l1, l2, q⟩ => by
    intro r nr
    have li : i < σ.length := by rw [← s0.len]; exact l1
    obtain ⟨s1, k1⟩ := s0.setOwn' li nr (.dt (Nat.zero_le _) .nil)
    have lj : j < (σ.set i (some (.ref r))).length := by rw [List.length_set, ← s0.len]; exact l2
    have s2 := s1.setDat lj (d := .non) .non
    have k2 := s1.setKeep j (.dat .non) fun ds z => nomatch z
    exact ⟨_, _, rfl, q _ _ _ s2 (k1.trans k2)⟩
end
end DL
/-! part DL37 -/
namespace DL
open PySem PySem.Spec PyProof.Rows L2 My
def gNeg : Dt → Option Dt
  | .int i => some (.int (-i))
  | _ => none
theorem o_neg {K : PySem.W.Frag} : Op1 K (rU fun i => .int (-i)) gNeg := fun P x d c H Q nP hx h q => by
  cases d with
  | int i =>
    cases h
    cases hx
    exact ⟨_, rfl, q H _ (Same.refl H) (.int _)⟩
  | _ => cases h
/-- a dict of one's own becomes data -/
def wFrzT {S : Type} (i : Nat) (w : WS S) : WS S := ⟨fun τ k => ownT τ i fun ps => w.f (putSl τ i (.dat (.dct ps))) k, fun τ k k' m h => ownT_mono (fun ps h => w.mono _ _ _ m h) h⟩
theorem s_frzT {S : Type} {X : Cx} {K : PySem.W.Frag} {A : Am S} {i : Nat} {w : WS S} {ss : List Stmt} (h : PSs X ss (tS K A w)) : PSs X ss (tS K A (wFrzT i w)) := PSs.imp h fun D σ H ⟨F, H0, O, τ, s0, q⟩ => by
  obtain ⟨ds, h0, q⟩ := ownT_some q
  obtain ⟨s1, k1⟩ := s0.frz h0
  exact ⟨F, H0, O, _, s1, w.mono _ _ _ (endD_imp (fun O ρ H k => k1.trans k) (fun _ _ _ _ _ _ h => h) rfl rfl rfl) q⟩
end DL
/-! part K41w -/
namespace Kx
open PySem PySem.Spec PyProof.Rows L2 My DL
/-! ### what the law's own numbering of a sketch comes to -/
def WN.termL : WN → List Tr → List Dt × WN
  | n, [] => ([], n)
  | n, e :: es => ((n.term e).1 :: ((n.term e).2.termL es).1, ((n.term e).2.termL es).2)
def WN.given : WN → Dc → List Dt → List Id' × Dc × WN
  | v, nm, [] => ([], nm, v)
  | v, nm, l :: ls => (v.id :: (v.new.given (putT nm (idk v.id) l) ls).1, (v.new.given (putT nm (idk v.id) l) ls).2)
structure WR where
  c : Dt
  nm : Dc
  v : WN
def wsk (v : WN) : Rw → WR
  | .let_ x t => ⟨.tup [.str "let", idt v.id, (v.new.term t).1], putT [] (idk v.id) x, (v.new.term t).2⟩
  | .set_ x t => ⟨.tup [.str "set", idt v.id, ((v.use x).term t).1], [], ((v.use x).term t).2⟩
  | .read_ x => ⟨.tup [.str "read", idt v.id], [], v.use x⟩
  | .out_ t => ⟨.tup [.str "out", (v.term t).1], [], (v.term t).2⟩
  | .do_ x es => ⟨.tup [.str "do", idt v.id, .tup ((v.use x).termL es).1], [], ((v.use x).termL es).2⟩
  | .def_ x ls _ => ⟨.tup [.str "def", idt v.id, .tup ((v.new.new.given (putT [] (idk v.id) x) ls).1.map idt), idt v.new.id], (v.new.new.given (putT [] (idk v.id) x) ls).2.1, (v.new.new.given (putT [] (idk v.id) x) ls).2.2⟩
  | .if_ t _ _ => ⟨.tup [.str "if", (v.term t).1, idt (v.term t).2.id, idt (v.term t).2.new.id], [], (v.term t).2.new.new⟩
  | .rep_ t _ => ⟨.tup [.str "repeat", (v.term t).1, idt (v.term t).2.id], [], (v.term t).2.new⟩
  | .blk_ _ => ⟨.tup [.str "block", idt v.id], [], v.new⟩
def dicD (l : List (Id' × Dt)) : Dc := putTAll (l.map fun p => (idk p.1, p.2))
def WR.dt (r : WR) : Dt := .tup [r.c, .dct r.nm, .dct (dicD r.v.u), .dct (dicD r.v.t), .int r.v.b]
theorem pairs_ok : ∀ l : List (Id' × Dt), pairsD (l.map pairD) = some (l.map fun p => (idk p.1, p.2))
  | [] => rfl
  | p :: l => by
    rw [List.map_cons, List.map_cons]
    show (match keyD (idt p.1), pairsD (l.map pairD) with
      | some ks, some ps => some ((ks, p.2) :: ps)
      | _, _ => none) = _
    rw [pairs_ok l]
    rfl
theorem dict_ok (l : List (Id' × Dt)) : gDictP [.lst (l.map pairD)] = some (.dct (dicD l)) := by
  show (pairsD (l.map pairD)).map _ = _
  rw [pairs_ok l]
  rfl
theorem setL_run {S : Type} {i : Nat} {e : WE S} {τ : En × S} {k : Rs → En × S → Prop} (h : e.f τ fun d τ' => i < τ'.1.length ∧ k .nx (putSl τ' i (.dat d))) : (wSet i e).f τ k :=
  e.mono _ _ _ (fun d τ1 h => by
    show wPut i τ1 (.dat d) k
    unfold wPut
    rw [if_pos h.1]
    exact h.2) h
theorem or_run {S : Type} {τ : En × S} {i : Nat} {z z1 z2 : Str} {a b R : WS S} {k : Rs → En × S → Prop} (e : τ.1[i]? = some (.dat (.str z))) (q : if z = z1 ∨ z = z2 then a.f τ (seqK (fun τ' => R.f τ' k) k) else b.f τ (seqK (fun τ' => R.f τ' k) k)) :
    (wSeq (wIfS (wOrT (wTst (wO2 gEq (wVar i) (wC (.str z1)))) (wTst (wO2 gEq (wVar i) (wC (.str z2))))) a b) R).f τ k := by
  have w2 : ∀ (kk : Bool → En × S → Prop), kk (decide (z = z2)) τ → (wTst (wO2 gEq (wVar i) (wC (.str z2))) : WT S).f τ kk := fun kk h => wVar_run (k := fun d τ1 => optK (gEq d (.str z2)) fun c => match c with | .bl b1 => kk b1 τ1 | _ => False) e h
  have w1 : ∀ (kk : Bool → En × S → Prop), kk (decide (z = z1)) τ → (wTst (wO2 gEq (wVar i) (wC (.str z1))) : WT S).f τ kk := fun kk h => wVar_run (k := fun d τ1 => optK (gEq d (.str z1)) fun c => match c with | .bl b1 => kk b1 τ1 | _ => False) e h
  refine w1 _ ?_
  by_cases h1 : z = z1
  · rw [if_pos (.inl h1)] at q
    rw [if_pos (decide_eq_true h1)]
    show if true = true then _ else _
    rw [if_pos rfl]
    exact q
  · rw [if_neg (by rw [decide_eq_false h1]; decide)]
    refine w2 _ ?_
    by_cases h2 : z = z2
    · rw [if_pos (.inr h2)] at q
      rw [if_pos (decide_eq_true h2)]
      exact q
    · rw [if_neg (fun h => h.elim h1 h2)] at q
      rw [if_neg (by rw [decide_eq_false h2]; decide)]
      exact q
theorem consVar2 {S : Type} {τ : En × S} {i j : Nat} {d e : Dt} {k : List Dt → En × S → Prop} (h1 : τ.1[i]? = some (.dat d)) (h2 : τ.1[j]? = some (.dat e)) (h : k [d, e] τ) : (wCons (wVar i) (wCons (wVar j) wNil) : WA S).f τ k :=
  wVar_run (k := fun d τ1 => (wVar j : WE S).f τ1 fun e τ2 => k [d, e] τ2) h1 (wVar_run (k := fun e τ2 => k [d, e] τ2) h2 h)
theorem callV2 {S S' : Type} {A : Am S} {A' : Am S'} {L : Lens A A'} {wf : WF S'} {τ : En × S} {i j : Nat} {d e : Dt} {k : Dt → En × S → Prop} (h1 : τ.1[i]? = some (.dat d)) (h2 : τ.1[j]? = some (.dat e)) (h : wf.f [d, e] (L.get τ.2) (ansK fun d s' => k d (τ.1, L.put τ.2 s'))) : (wCall L wf (wCons (wVar i) (wCons (wVar j) wNil))).f τ k :=
  consVar2 (k := fun ds τ1 => wf.f ds (L.get τ1.2) (ansK fun d s' => k d (τ1.1, L.put τ1.2 s'))) h1 h2 h
theorem lc_step {S : Type} {wg : WG} {te : WE S} {ρ ρ1 : En} {d : Dt} {ds : List Dt} {s : S} {acc : List Dt} {k : List Dt → S → Prop} (l : acc.length < 1000000) (e : wg d ρ = some ρ1) (h : te.f (ρ1, s) fun e τ3 => lcN wg wYes te ρ ds τ3.2 (acc ++ [e]) k) : lcN wg wYes te ρ (d :: ds) s acc k :=
  ⟨l, by rw [e]; exact h⟩
def bRest (p : Addr) : WS SK := wFrzT 5 (wRet (wTup (wCons (wVar 7) (wCons (wVar 5) (wCons (wON gDictP (wCons (wKget p 3 "uses") wNil)) (wCons (wON gDictP (wCons (wKget p 3 "values") wNil)) (wCons (wKget p 3 "next") wNil)))))))
theorem rest_w {p : Addr} {a0 a1 a2 a4 a6 a8 a9 a10 a11 a12 a13 : Sl} {nm : Dc} {c : Dt} {v : WN} {k : Rs → En × SK → Prop} (q : ∀ ρ, k (.rt (WR.dt ⟨c, nm, v⟩)) (ρ, v.dk)) :
    (bRest p).f ([a0, a1, a2, .dat (.ptr p), a4, .own (.dt nm), a6, .dat c, a8, a9, a10, a11, a12, a13], v.dk) k := by
  refine ⟨rfl, optK_is (wk_uses v) (optK_is (dict_ok v.u) ⟨rfl, optK_is (wk_values v) (optK_is (dict_ok v.t) ⟨rfl, optK_is (wk_next v) ⟨Nat.le_of_ble_eq_true rfl, q _⟩⟩)⟩)⟩
theorem termL_len : ∀ (es : List Tr) (v : WN), (∀ e ∈ es, e.size ≤ 1000) → (v.termL es).1.length = es.length ∧ (v.termL es).2.u.length ≤ v.u.length + 1000 * es.length ∧ (v.termL es).2.t.length ≤ v.t.length + 1000 * es.length
  | [], v, _ => ⟨rfl, Nat.le_refl _, Nat.le_refl _⟩
  | e :: es, v, h => by
    have h1 := termL_len es (v.term e).2 fun x hx => h x (List.mem_cons_of_mem _ hx)
    have h2 := wterm_len e v
    have h3 := h e List.mem_cons_self
    refine ⟨by show ((v.term e).2.termL es).1.length + 1 = _; rw [h1.1, List.length_cons], ?_, ?_⟩
    · show ((v.term e).2.termL es).2.u.length ≤ _
      rw [List.length_cons]
      omega
    · show ((v.term e).2.termL es).2.t.length ≤ _
      rw [List.length_cons]
      omega
/-- the terms of a do, one after another -/
theorem lc_terms {K0 : PySem.W.Frag} {p : Addr} {ρ : En} {i : Nat} (hs : ρ[3]? = some (.dat (.ptr p))) (hi : i < ρ.length) (h3 : i ≠ 3) : ∀ (es : List Tr) (v : WN) (acc : List Dt) (k : List Dt → SK → Prop), (∀ e ∈ es, Dr 2 e) → v.u.length + 1000 * es.length ≤ 800000 → v.t.length + 1000 * es.length ≤ 800000 → acc.length + es.length ≤ 1000000 →
    k (acc ++ (v.termL es).1) (v.termL es).2.dk → lcN (wgName i) wYes (wCall (Lens.id (AmK K0 p)) (wfW p (QTerm 4)) (wCons (wVar 3) (wCons (wVar i) wNil))) ρ (es.map Tr.dt) v.dk acc k
  | [], v, acc, k, _, _, _, _, q => by
    rw [show (v.termL []).1 = [] from rfl, List.append_nil] at q
    exact q
  | e :: es, v, acc, k, h, h1, h2, l, q => by
    rw [List.length_cons] at h1 h2 l
    have he := h e List.mem_cons_self
    have sz := he.size
    have wl := wterm_len e v
    refine lc_step (ρ1 := ρ.set i (.dat e.dt)) (by omega) (by show (if i < ρ.length then some (ρ.set i (.dat e.dt)) else none) = _; rw [if_pos hi]) ?_
    refine callV2 (d := .ptr p) (e := e.dt) (by show (ρ.set i (.dat e.dt))[3]? = _; rw [List.getElem?_set_ne h3]; exact hs) (by show (ρ.set i (.dat e.dt))[i]? = _; rw [List.getElem?_set_self hi]) ?_
    refine ⟨v, [e.dt], _, _, rfl, rfl, ⟨e, rfl, he.up.up, by show v.u.length + 2 ^ 5 ≤ 900000; omega, by show v.t.length + 2 ^ 5 ≤ 900000; omega, rfl, rfl⟩, ?_⟩
    refine lc_terms hs hi h3 es (v.term e).2 (acc ++ [(v.term e).1]) k (fun x hx => h x (List.mem_cons_of_mem _ hx)) (by omega) (by omega) (by rw [List.length_append, List.length_singleton]; omega) ?_
    rw [List.append_assoc]
    exact q
def bGiven (K : PySem.W.Frag) (p : Addr) : WS SK := wSeq (wApp 10 (wCall (Lens.id (AmK K p)) (wfW p QNew) (wCons (wVar 3) wNil))) (wOTput 5 (wOIx 10 (wO1 gNeg (wC (.int 1)))) (wVar 11))
theorem given_loop {K : PySem.W.Frag} {p : Addr} {a0 a1 a2 a4 a6 a7 a8 a9 a12 a13 : Sl} {k : Rs → En × SK → Prop} : ∀ (ls gs : List Dt) (nm : Dc) (v : WN) (a11 : Sl), gs.length + ls.length ≤ 1000 → nm.length + ls.length ≤ 1000 →
    (∀ b11, k .nx ([a0, a1, a2, .dat (.ptr p), a4, .own (.dt (v.given nm ls).2.1), a6, a7, a8, a9, .own (.lst (gs ++ (v.given nm ls).1.map idt)), b11, a12, a13], (v.given nm ls).2.2.dk)) →
    lpN (wgName 11) (bGiven K p) ls ([a0, a1, a2, .dat (.ptr p), a4, .own (.dt nm), a6, a7, a8, a9, .own (.lst gs), a11, a12, a13], v.dk) k
  | [], gs, nm, v, a11, _, _, q => by
    have := q a11
    rw [show (v.given nm []).1.map idt = [] from rfl, List.append_nil] at this
    exact this
  | l :: ls, gs, nm, v, a11, h1, h2, q => by
    rw [List.length_cons] at h1 h2
    have hp := putT_len nm (idk v.id) l
    show (bGiven K p).f ([a0, a1, a2, .dat (.ptr p), a4, .own (.dt nm), a6, a7, a8, a9, .own (.lst gs), .dat l, a12, a13], v.dk) _
    refine seq_run ⟨v, [], _, _, rfl, rfl, ⟨rfl, rfl, rfl⟩, by show gs.length < 1000000; omega, ?_⟩
    show optK (gIx (.lst (gs ++ [idt v.id])) (.int (-1))) _
    refine optK_is (c := idt v.id) (atI_last gs (idt v.id)) ⟨by show nm.length < 1000000; omega, ?_⟩
    refine given_loop ls (gs ++ [idt v.id]) (putT nm (idk v.id) l) v.new _ (by rw [List.length_append, List.length_singleton]; omega) (by omega) fun b11 => ?_
    have := q b11
    rw [show (v.given nm (l :: ls)).1 = v.id :: (v.new.given (putT nm (idk v.id) l) ls).1 from rfl, List.map_cons] at this
    rw [List.append_assoc]
    exact this
theorem given_len : ∀ (ls : List Dt) (nm : Dc) (v : WN), (v.given nm ls).1.length = ls.length
  | [], nm, v => rfl
  | l :: ls, nm, v => by
    show (v.new.given (putT nm (idk v.id) l) ls).1.length + 1 = _
    rw [given_len ls, List.length_cons]
def wfLS : WF Unit := ⟨fun ds s k => ∃ row o b, ds = [Rw.skd row, .str o, .int b] ∧ SkD row ∧ k (.rt (wsk ⟨o, b + 1, [], []⟩ row).dt) s, fun ds s k k' m ⟨row, o, b, h1, h2, h⟩ => ⟨row, o, b, h1, h2, m _ _ h⟩⟩
theorem upd_swap {H : Hp} {a b : Addr} {u v : HO} (n : a ≠ b) : upd (upd H a u) b v = upd (upd H b v) a u := by
  funext c
  by_cases h1 : c = a
  · subst h1
    rw [upd_ne n, upd_same, upd_same]
  · by_cases h2 : c = b
    · subst h2
      rw [upd_same, upd_ne h1, upd_same]
    · rw [upd_ne h2, upd_ne h1, upd_ne h1, upd_ne h2]
section
variable {P : Program} {w : World} {K : PySem.W.Frag} {mg : Str → Option Value} {base : Heap} (T : Tx K mg)
set_option maxHeartbeats 8000000 in
theorem ok_sketch_w : FnOk P w K mg base CX0 7 T.f__law_sketch T.d__law_sketch ["_law_sketch_z", "_law_person_z", "_law_start_z"] (spD K Am.none 3 wfLS) := by
  refine T.F__law_sketch.ok sc__law_sketch (spD_len rfl) (fun cdv A outer s H vs Q E hr h => ?_)
  refine ⟨_, (pss_cons (ps_asg (pe_tup (pa_cons (pe_disp (pps_cons pe_str (pv 1) (pps_cons pe_str (pe_op op_add (pv 2) pe_int) (pps_cons pe_str (pe_lst pa_nil) (pps_cons pe_str (pe_lst pa_nil) pps_nil)))) rfl rfl (by simp) (by decide)) (pa_cons (pe_ix ix_seq (pv 0) pe_int (fun _ _ => rfl)) pa_nil))) (pg_tup rfl (pgs_cons (pg_name (i := 3) sc__law_sketch.nd rfl (Or.inr rfl)) (pgs_cons (pg_name (i := 4) sc__law_sketch.nd rfl (Or.inl rfl)) pgs_nil))))
    (pss_any (p := fun _ : Addr => True) (fun a _ => (s_cons (s_parDN (i := 5) (j := 6) rfl sc__law_sketch.nd rfl rfl (by decide) rfl rfl pe_non (by rfl))
    (s_cons (s_if (t_cmp op_in_seq (o_inS false) (d_var (pv 4)) (d_tup (a_cons (d_str pe_str) (a_cons (d_str pe_str) a_nil))) rfl) (s_cons (s_set (i := 6) sc__law_sketch.nd rfl (Or.inl rfl) (d_call (Lens.id (AmK K a)) (ok_new (P := P) (w := w) (base := base) T a) (hr.mono (by decide)) (by rfl) T.g__law_new T.F__law_new.kp T.b__law_new (a_cons (d_var (pv 3)) a_nil) rfl (la_cons la_nil)))
    (s_one (s_oput (Nat.lt_of_le_of_lt (Nat.add_le_add_left (by decide : 1 ≤ 64) _) hr.units) (pv 5) (d_var (pv 6)) (d_ix ix_seq o_ix (d_var (pv 0)) (d_int pe_int) (fun _ _ => rfl))))) s_nil)
    (s_cons (s_if (t_cmp op_in_seq (o_inS false) (d_var (pv 4)) (d_tup (a_cons (d_str pe_str) (a_cons (d_str pe_str) (a_cons (d_str pe_str) a_nil)))) rfl) (s_one (s_set (i := 6) sc__law_sketch.nd rfl (Or.inl rfl) (d_call (Lens.id (AmK K a)) (ok_usew (P := P) (w := w) (base := base) T a) (hr.mono (by decide)) (by rfl) T.g__law_use T.F__law_use.kp T.b__law_use (a_cons (d_var (pv 3)) (a_cons (d_ix ix_seq o_ix (d_var (pv 0)) (d_int pe_int) (fun _ _ => rfl)) a_nil)) rfl (la_cons (la_cons la_nil))))) s_nil)
    (s_cons (s_if (PW.pt (tw_or (t_cmp op_eq o_eq (d_var (pv 4)) (d_str pe_str) rfl) (tw_or1 (t_cmp op_eq o_eq (d_var (pv 4)) (d_str pe_str) rfl)))) (s_one (s_set (i := 7) sc__law_sketch.nd rfl (Or.inl rfl) (d_tup (a_cons (d_var (pv 4)) (a_cons (d_var (pv 6)) (a_cons (d_call (Lens.id (AmK K a)) (ok_sketch_term (P := P) (w := w) (base := base) T a 4 (by decide)) (hr.mono (by decide)) (by rfl) T.g__law_sketch_term T.F__law_sketch_term.kp T.b__law_sketch_term (a_cons (d_var (pv 3)) (a_cons (d_ix ix_seq o_ix (d_var (pv 0)) (d_int pe_int) (fun _ _ => rfl)) a_nil)) rfl (la_cons (la_cons la_nil))) a_nil)))))) (s_one (s_if (t_cmp op_eq o_eq (d_var (pv 4)) (d_str pe_str) rfl) (s_one (s_set (i := 7) sc__law_sketch.nd rfl (Or.inl rfl) (d_tup (a_cons (d_str pe_str) (a_cons (d_var (pv 6)) a_nil))))) (s_one (s_if (t_cmp op_eq o_eq (d_var (pv 4)) (d_str pe_str) rfl) (s_one (s_set (i := 7) sc__law_sketch.nd rfl (Or.inl rfl) (d_tup (a_cons (d_str pe_str) (a_cons (d_call (Lens.id (AmK K a)) (ok_sketch_term (P := P) (w := w) (base := base) T a 4 (by decide)) (hr.mono (by decide)) (by rfl) T.g__law_sketch_term T.F__law_sketch_term.kp T.b__law_sketch_term (a_cons (d_var (pv 3)) (a_cons (d_ix ix_seq o_ix (d_var (pv 0)) (d_int pe_int) (fun _ _ => rfl)) a_nil)) rfl (la_cons (la_cons la_nil))) a_nil))))) (s_one (s_if (t_cmp op_eq o_eq (d_var (pv 4)) (d_str pe_str) rfl) (s_one (s_set (i := 7) sc__law_sketch.nd rfl (Or.inl rfl) (d_tup (a_cons (d_str pe_str) (a_cons (d_var (pv 6)) (a_cons (d_callTy call_tuple_of o_tupOf (by rfl) T.z_tuple (by decide +kernel) (a_cons (d_lc (own := [("_law_term", 8)]) rfl sc__law_sketch.nd (i_tup (d_ix ix_seq o_ix (d_var (pv 0)) (d_int pe_int) (fun _ _ => rfl))) (blkOk_by (N := N__law_sketch) (sc := defScope s__law_sketch) (by decide +kernel)) (fun _ _ _ _ _ => pg_name (i := 8) sc__law_sketch.nd rfl (Or.inl rfl)) g_name (gw_name (by decide)) (fun _ _ _ _ _ => ts_nil) (fun _ _ _ _ _ => (d_call (Lens.id (AmK K a)) (ok_sketch_term (P := P) (w := w) (base := base) T a 4 (by decide)) (hr.mono (by decide)) (by rfl) T.g__law_sketch_term T.F__law_sketch_term.kp T.b__law_sketch_term (a_cons (d_var (pv 3)) (a_cons (d_var (pv 8)) a_nil)) rfl (la_cons (la_cons la_nil))))) a_nil)) a_nil)))))) (s_one (s_if (t_cmp op_eq o_eq (d_var (pv 4)) (d_str pe_str) rfl) (s_cons (s_parL (i := 9) (j := 10) rfl sc__law_sketch.nd rfl rfl (by decide) rfl rfl (d_call (Lens.id (AmK K a)) (ok_new (P := P) (w := w) (base := base) T a) (hr.mono (by decide)) (by rfl) T.g__law_new T.F__law_new.kp T.b__law_new (a_cons (d_var (pv 3)) a_nil) rfl (la_cons la_nil)) (by rfl))
    (s_cons (s_for PassesOwn.never rfl (i_tup (d_ix ix_seq o_ix (d_var (pv 0)) (d_int pe_int) (fun _ _ => rfl))) (pg_name (i := 11) sc__law_sketch.nd rfl (Or.inl rfl)) g_name (s_cons (s_app (pv 10) (d_call (Lens.id (AmK K a)) (ok_new (P := P) (w := w) (base := base) T a) (hr.mono (by decide)) (by rfl) T.g__law_new T.F__law_new.kp T.b__law_new (a_cons (d_var (pv 3)) a_nil) rfl (la_cons la_nil)))
    (s_one (s_oput (Nat.lt_of_le_of_lt (Nat.add_le_add_left (by decide : 1 ≤ 64) _) hr.units) (pv 5) (d_oix (pv 10) (d_un un_neg o_neg (d_int pe_int)) (fun _ _ => rfl)) (d_var (pv 11))))))
    (s_one (s_set (i := 7) sc__law_sketch.nd rfl (Or.inl rfl) (d_tup (a_cons (d_str pe_str) (a_cons (d_var (pv 6)) (a_cons (d_tupO (by rfl) T.z_tuple (pv 10)) (a_cons (d_var (pv 9)) a_nil))))))))) (s_one (s_if (t_cmp op_eq o_eq (d_var (pv 4)) (d_str pe_str) rfl) (s_cons (s_par (i := 12) (j := 13) rfl sc__law_sketch.nd rfl rfl (by decide) rfl rfl (a_cons (d_call (Lens.id (AmK K a)) (ok_sketch_term (P := P) (w := w) (base := base) T a 4 (by decide)) (hr.mono (by decide)) (by rfl) T.g__law_sketch_term T.F__law_sketch_term.kp T.b__law_sketch_term (a_cons (d_var (pv 3)) (a_cons (d_ix ix_seq o_ix (d_var (pv 0)) (d_int pe_int) (fun _ _ => rfl)) a_nil)) rfl (la_cons (la_cons la_nil))) (a_cons (d_call (Lens.id (AmK K a)) (ok_new (P := P) (w := w) (base := base) T a) (hr.mono (by decide)) (by rfl) T.g__law_new T.F__law_new.kp T.b__law_new (a_cons (d_var (pv 3)) a_nil) rfl (la_cons la_nil)) a_nil)) (by rfl))
    (s_one (s_set (i := 7) sc__law_sketch.nd rfl (Or.inl rfl) (d_tup (a_cons (d_str pe_str) (a_cons (d_var (pv 12)) (a_cons (d_var (pv 13)) (a_cons (d_call (Lens.id (AmK K a)) (ok_new (P := P) (w := w) (base := base) T a) (hr.mono (by decide)) (by rfl) T.g__law_new T.F__law_new.kp T.b__law_new (a_cons (d_var (pv 3)) a_nil) rfl (la_cons la_nil)) a_nil)))))))) (s_one (s_if (t_cmp op_eq o_eq (d_var (pv 4)) (d_str pe_str) rfl) (s_cons (s_set (i := 12) sc__law_sketch.nd rfl (Or.inl rfl) (d_call (Lens.id (AmK K a)) (ok_sketch_term (P := P) (w := w) (base := base) T a 4 (by decide)) (hr.mono (by decide)) (by rfl) T.g__law_sketch_term T.F__law_sketch_term.kp T.b__law_sketch_term (a_cons (d_var (pv 3)) (a_cons (d_ix ix_seq o_ix (d_var (pv 0)) (d_int pe_int) (fun _ _ => rfl)) a_nil)) rfl (la_cons (la_cons la_nil))))
    (s_one (s_set (i := 7) sc__law_sketch.nd rfl (Or.inl rfl) (d_tup (a_cons (d_str pe_str) (a_cons (d_var (pv 12)) (a_cons (d_call (Lens.id (AmK K a)) (ok_new (P := P) (w := w) (base := base) T a) (hr.mono (by decide)) (by rfl) T.g__law_new T.F__law_new.kp T.b__law_new (a_cons (d_var (pv 3)) a_nil) rfl (la_cons la_nil)) a_nil))))))) (s_one (s_set (i := 7) sc__law_sketch.nd rfl (Or.inl rfl) (d_tup (a_cons (d_str pe_str) (a_cons (d_call (Lens.id (AmK K a)) (ok_new (P := P) (w := w) (base := base) T a) (hr.mono (by decide)) (by rfl) T.g__law_new T.F__law_new.kp T.b__law_new (a_cons (d_var (pv 3)) a_nil) rfl (la_cons la_nil)) a_nil))))))))))))))))))
    (s_frzT (i := 5) (s_one (s_ret (d_tup (a_cons (d_var (pv 7)) (a_cons (d_var (pv 5)) (a_cons (d_callTy (cr_dictP rfl (Nat.lt_of_le_of_lt (Nat.add_le_add_left (by decide : 2 ≤ 64) _) hr.units)) o_dictP (by rfl) T.z_dict (by decide +kernel) (a_cons (d_kget (Nat.lt_of_le_of_lt (Nat.add_le_add_left (by decide : 1 ≤ 64) _) hr.units) (pv 3) pe_str) a_nil)) (a_cons (d_callTy (cr_dictP rfl (Nat.lt_of_le_of_lt (Nat.add_le_add_left (by decide : 2 ≤ 64) _) hr.units)) o_dictP (by rfl) T.z_dict (by decide +kernel) (a_cons (d_kget (Nat.lt_of_le_of_lt (Nat.add_le_add_left (by decide : 1 ≤ 64) _) hr.units) (pv 3) pe_str) a_nil)) (a_cons (d_kget (Nat.lt_of_le_of_lt (Nat.add_le_add_left (by decide : 1 ≤ 64) _) hr.units) (pv 3) pe_str) a_nil)))))))))))))))), ?_⟩
  obtain ⟨F, s0, ds, hl, _, _, fex, xs, row, o, b, rfl, dr, q⟩ := h
  cases xs with
  | @cons sv _ _ _ x0 xs =>
  cases xs with
  | @cons _ _ _ _ x1 xs =>
  cases xs with
  | @cons _ _ _ _ x2 xs =>
  cases xs
  obtain rfl := x1.strI
  obtain rfl := x2.intI
  obtain ⟨wd, rest, ew⟩ : ∃ wd rest, row.skd = .tup (.str wd :: rest) := by cases dr <;> exact ⟨_, _, rfl⟩
  have x0' := x0
  rw [ew] at x0'
  obtain ⟨a0, vs0, rfl, hs0, _, t3⟩ := x0'.tupI
  cases t3 with
  | @cons w0 ws0 _ _ y0 y1 =>
  obtain rfl := y0.strI
  refine fun p np => ⟨_, rfl, _, rfl, _, _, rfl, rfl, Nat.zero_le _, fun l1 nl1 => ⟨Nat.zero_le _, fun l2 nl2 => ?_⟩⟩
  have n1 : l1 ≠ p := fun z => by rw [z, upd_same] at nl1; cases nl1
  have n2 : l2 ≠ l1 := fun z => by rw [z, upd_same] at nl2; cases nl2
  have n3 : l2 ≠ p := fun z => by rw [z, upd_ne (Ne.symm n1), upd_same] at nl2; cases nl2
  have h1 : H l1 = none := by rw [upd_ne n1] at nl1; exact nl1
  have h2 : H l2 = none := by rw [upd_ne n2, upd_ne n3] at nl2; exact nl2
  refine ⟨by rw [upd_ne (Ne.symm n3), upd_ne (Ne.symm n1), upd_same], [(.inr "owner", .str o), (.inr "next", .int (b + 1)), (.inr "uses", .ref l1), (.inr "values", .ref l2)], rfl, Nat.le_of_ble_eq_true rfl, ?_⟩
  have hm : mergeK [] [((.inr "owner" : Key), V.str o), (.inr "next", .int (b + 1)), (.inr "uses", .ref l1), (.inr "values", .ref l2)] = [(.inr "owner", .str o), (.inr "next", .int (b + 1)), (.inr "uses", .ref l1), (.inr "values", .ref l2)] := by kernel_rfl
  rw [hm]
  generalize hH : upd (upd (upd (upd H p (.dK [])) l1 (.lst [])) l2 (.lst [])) p (.dK [((.inr "owner" : Key), V.str o), (.inr "next", .int (b + 1)), (.inr "uses", .ref l1), (.inr "values", .ref l2)]) = H3
  have ep : H3 p = some (.dK [(.inr "owner", .str o), (.inr "next", .int (b + 1)), (.inr "uses", .ref l1), (.inr "values", .ref l2)]) := by rw [← hH, upd_same]
  have e1 : H3 l1 = some (.lst []) := by rw [← hH, upd_ne n1, upd_ne (Ne.symm n2), upd_same]
  have e2 : H3 l2 = some (.lst []) := by rw [← hH, upd_ne n3, upd_same]
  have sm : Same H H3 := fun c u e => by rw [← hH, upd_ne (ne_of_none e np), upd_ne (ne_of_none e h2), upd_ne (ne_of_none e h1), upd_ne (ne_of_none e np)]; exact e
  refine ⟨_, rfl, .inr (.inl ⟨a0, _, 0, _, rfl, rfl, Same.seqT (Same.trans hidP_less sm) hs0, atI_nat (j := 0) rfl, ?_⟩)⟩
  refine ⟨by show 2 ≤ sizeLine; decide, fun t nt => ?_⟩
  refine ⟨t, _, rfl, .inl (.inl upd_same), rfl, ?_⟩
  refine ⟨_, _, rfl, _, _, rfl, rfl, ?_⟩
  generalize hH4 : upd H3 t (HO.tup [V.ref p, V.str wd]) = H4
  have sm4 : Same H3 H4 := by rw [← hH4]; exact same_new nt _
  have sm5 : Same H H4 := sm.trans sm4
  have np' : ∀ c, H c = none → ¬ F c := fun c e f => by
    obtain ⟨u, e2, _⟩ := fex c f
    rw [e] at e2
    cases e2
  have noo : ∀ (i : Nat) (c : Cn), ([.dat row.skd, .dat (.str o), .dat (.int b), .dat (.ptr p), .dat (.str wd), .no, .no, .no, .no, .no, .no, .no, .no, .no] : En)[i]? ≠ some (Sl.own c) := fun i c h => by
    match i, h with
    | 0, h => cases h
    | 1, h => cases h
    | 2, h => cases h
    | 3, h => cases h
    | 4, h => cases h
    | 5, h => cases h
    | 6, h => cases h
    | 7, h => cases h
    | 8, h => cases h
    | 9, h => cases h
    | 10, h => cases h
    | 11, h => cases h
    | 12, h => cases h
    | 13, h => cases h
    | n + 14, h => cases h
  have hh : ∀ c, hidn (fun c => F c ∨ c = p) (fun _ => 0) ([.dat row.skd, .dat (.str o), .dat (.int b), .dat (.ptr p), .dat (.str wd), .no, .no, .no, .no, .no, .no, .no, .no, .no] : En) c → F c ∨ c = p := fun c h => h.elim id fun ⟨i, cn, e, _⟩ => absurd e (noo i cn)
  have lst : ∀ (Pp : Addr → Prop) (l : Addr), H l = none → l ≠ p → (∀ c, Pp c → F c ∨ c = p) → H4 l = some (.lst []) → DX K (hidP Pp H4) (.ref l) (.lst []) := fun Pp l h0 hp hP e => .lst (hidP_mk (fun z => (hP l z).elim (np' l h0) hp) e fun ps z => nomatch z) (Nat.zero_le _) .nil
  have am : ∀ (Pp : Addr → Prop), (∀ c, Pp c → F c ∨ c = p) → (AmK K p).at_ (WN.dk ⟨o, b + 1, [], []⟩) Pp H4 := fun Pp hP => ⟨_, sm4 _ _ ep, Nat.le_of_ble_eq_true rfl, .cons (.str o) (.cons (.int _) (.cons (lst Pp l1 h1 n1 hP (sm4 _ _ e1)) (.cons (lst Pp l2 h2 n3 hP (sm4 _ _ e2)) .nil)))⟩
  have st : Stt K (AmK K p) (fun c => F c ∨ c = p) H4 (fun _ => 0) [some (.ref a0), some (.str o), some (.int b), some (.ref p), some (.str wd), none, none, none, none, none, none, none, none, none] H4 ([.dat row.skd, .dat (.str o), .dat (.int b), .dat (.ptr p), .dat (.str wd), .no, .no, .no, .no, .no, .no, .no, .no, .no], WN.dk ⟨o, b + 1, [], []⟩) := by
    refine ⟨am _ hh, ⟨_, fun c => F c ∨ c = p, am _ fun c h => h⟩, fun c f => .inr f, fun c h => ?_, fun c u e _ _ => e, fun i d h => ?_, fun i c h => absurd h (noo i c), fun i j c d h => absurd h (noo i c), rfl⟩
    · rcases h with h | h
      · obtain ⟨u, e, d⟩ := fex c h
        exact ⟨u, sm5 _ _ e, d⟩
      · rw [h]
        exact ⟨_, sm4 _ _ ep, trivial⟩
    · match i, h with
      | 0, h =>
        cases h
        exact ⟨_, rfl, x0.same (hidP_same fun c u e _ n => ⟨fun z => (hh c z).elim n (ne_of_none e np), sm5 _ _ e⟩)⟩
      | 1, h => cases h; exact ⟨_, rfl, .str o⟩
      | 2, h => cases h; exact ⟨_, rfl, .int _⟩
      | 3, h => cases h; exact ⟨_, rfl, .sp rfl⟩
      | 4, h => cases h; exact ⟨_, rfl, .str wd⟩
      | 5, h => cases h
      | 6, h => cases h
      | 7, h => cases h
      | 8, h => cases h
      | 9, h => cases h
      | 10, h => cases h
      | 11, h => cases h
      | 12, h => cases h
      | 13, h => cases h
      | n + 14, h => cases h
  refine ⟨p, trivial, _, _, _, _, st, ?_⟩
  have fin : ∀ (n' : WN) (R : Rs) (ρ' : En), R = .rt (wsk ⟨o, b + 1, [], []⟩ row).dt → endD K (AmK K p) (fun c => F c ∨ c = p) H4 { nx := fun _ H' => Q .non H', rt := Q } (fun O' ρ' H' => Keep (fun c => F c ∨ c = p) (fun _ => 0) ([.dat row.skd, .dat (.str o), .dat (.int b), .dat (.ptr p), .dat (.str wd), .no, .no, .no, .no, .no, .no, .no, .no, .no] : En) H4 O' ρ' H') R (ρ', n'.dk) := fun n' R ρ' e => by
    subst e
    intro σ' H' O' v st' kp x
    refine q H' v trivial (fun c u e _ _ => ?_) (x.same (hidP_same fun c u e _ n => ⟨fun f => n (.inl f), e⟩))
    exact st'.ev c u (sm5 c u e) (fun z => ne_of_none e np z) fun z => z
  cases dr with
  | @let_ nm t dt =>
    cases ew
    refine seq_run ⟨by show 5 < 14; decide, by show 6 < 14; decide, ?_⟩
    refine viS_run rfl (fun k h => ⟨Nat.le_of_ble_eq_true rfl, h⟩) rfl (itP (by decide +kernel) ?_)
    refine setS_run ⟨⟨o, b + 1, [], []⟩, [], _, _, rfl, rfl, ⟨rfl, rfl, rfl⟩, by show 6 < 14; decide, ?_⟩
    refine ⟨by show 0 < 1000000; decide, ?_⟩
    refine viS_run rfl (fun k h => ⟨Nat.le_of_ble_eq_true rfl, h⟩) rfl (itN (by decide +kernel) ?_)
    refine or_run rfl (itP (.inl rfl) ?_)
    refine setL_run ⟨(⟨o, b + 1, [], []⟩ : WN).new, [t.dt], _, _, rfl, rfl, ⟨t, rfl, dt, Nat.le_of_ble_eq_true rfl, Nat.le_of_ble_eq_true rfl, rfl, rfl⟩, Nat.le_of_ble_eq_true rfl, by show 7 < 14; decide, ?_⟩
    exact rest_w fun ρ => fin _ _ _ rfl
  | @set_ i t dt =>
    cases ew
    refine seq_run ⟨by show 5 < 14; decide, by show 6 < 14; decide, ?_⟩
    refine viS_run rfl (fun k h => ⟨Nat.le_of_ble_eq_true rfl, h⟩) rfl (itN (by decide +kernel) ?_)
    refine viS_run rfl (fun k h => ⟨Nat.le_of_ble_eq_true rfl, h⟩) rfl (itP (by decide +kernel) ?_)
    refine setL_run ⟨⟨o, b + 1, [], []⟩, [idt i], _, _, rfl, rfl, ⟨_, rfl, Nat.le_of_ble_eq_true rfl, rfl, rfl⟩, by show 6 < 14; decide, ?_⟩
    refine or_run rfl (itP (.inr rfl) ?_)
    refine setL_run ⟨(⟨o, b + 1, [], []⟩ : WN).use (idt i), [t.dt], _, _, rfl, rfl, ⟨t, rfl, dt.up, Nat.le_of_ble_eq_true rfl, Nat.le_of_ble_eq_true rfl, rfl, rfl⟩, Nat.le_of_ble_eq_true rfl, by show 7 < 14; decide, ?_⟩
    exact rest_w fun ρ => fin _ _ _ rfl
  | @read_ i =>
    cases ew
    refine seq_run ⟨by show 5 < 14; decide, by show 6 < 14; decide, ?_⟩
    refine viS_run rfl (fun k h => ⟨Nat.le_of_ble_eq_true rfl, h⟩) rfl (itN (by decide +kernel) ?_)
    refine viS_run rfl (fun k h => ⟨Nat.le_of_ble_eq_true rfl, h⟩) rfl (itP (by decide +kernel) ?_)
    refine setL_run ⟨⟨o, b + 1, [], []⟩, [idt i], _, _, rfl, rfl, ⟨_, rfl, Nat.le_of_ble_eq_true rfl, rfl, rfl⟩, by show 6 < 14; decide, ?_⟩
    refine or_run rfl (itN (by decide +kernel) (kv_if rfl (itP rfl ?_)))
    refine setL_run ⟨Nat.le_of_ble_eq_true rfl, by show 7 < 14; decide, ?_⟩
    exact rest_w fun ρ => fin _ _ _ rfl
  | @out_ t dt =>
    cases ew
    refine seq_run ⟨by show 5 < 14; decide, by show 6 < 14; decide, ?_⟩
    refine viS_run rfl (fun k h => ⟨Nat.le_of_ble_eq_true rfl, h⟩) rfl (itN (by decide +kernel) ?_)
    refine viS_run rfl (fun k h => ⟨Nat.le_of_ble_eq_true rfl, h⟩) rfl (itN (by decide +kernel) ?_)
    refine or_run rfl (itN (by decide +kernel) (kv_if rfl (itN (by decide +kernel) (kv_if rfl (itP rfl ?_)))))
    refine setL_run ⟨⟨o, b + 1, [], []⟩, [t.dt], _, _, rfl, rfl, ⟨t, rfl, dt.up, Nat.le_of_ble_eq_true rfl, Nat.le_of_ble_eq_true rfl, rfl, rfl⟩, Nat.le_of_ble_eq_true rfl, by show 7 < 14; decide, ?_⟩
    exact rest_w fun ρ => fin _ _ _ rfl
  | @do_ i es hd he =>
    cases ew
    refine seq_run ⟨by show 5 < 14; decide, by show 6 < 14; decide, ?_⟩
    refine viS_run rfl (fun k h => ⟨Nat.le_of_ble_eq_true rfl, h⟩) rfl (itN (by decide +kernel) ?_)
    refine viS_run rfl (fun k h => ⟨Nat.le_of_ble_eq_true rfl, h⟩) rfl (itP (by decide +kernel) ?_)
    refine setL_run ⟨⟨o, b + 1, [], []⟩, [idt i], _, _, rfl, rfl, ⟨_, rfl, Nat.le_of_ble_eq_true rfl, rfl, rfl⟩, by show 6 < 14; decide, ?_⟩
    refine or_run rfl (itN (by decide +kernel) (kv_if rfl (itN (by decide +kernel) (kv_if rfl (itN (by decide +kernel) (kv_if rfl (itP rfl ?_)))))))
    have tl := termL_len es ((⟨o, b + 1, [], []⟩ : WN).use (idt i)) fun e h => by have := (hd e h).size; omega
    refine setL_run ?_
    refine lc_terms (v := (⟨o, b + 1, [], []⟩ : WN).use (idt i)) rfl (by show 8 < 14; decide) (by decide) es [] _ hd (by show 1 + 1000 * es.length ≤ 800000; omega) (by show 0 + 1000 * es.length ≤ 800000; omega) (by show 0 + es.length ≤ 1000000; omega) ?_
    refine ⟨by rw [List.nil_append, tl.1]; omega, Nat.le_of_ble_eq_true rfl, by show 7 < 14; decide, ?_⟩
    exact rest_w fun ρ => fin _ _ _ rfl
  | @def_ nm ls hle =>
    cases ew
    refine seq_run ⟨by show 5 < 14; decide, by show 6 < 14; decide, ?_⟩
    refine viS_run rfl (fun k h => ⟨Nat.le_of_ble_eq_true rfl, h⟩) rfl (itP (by decide +kernel) ?_)
    refine setS_run ⟨⟨o, b + 1, [], []⟩, [], _, _, rfl, rfl, ⟨rfl, rfl, rfl⟩, by show 6 < 14; decide, ?_⟩
    refine ⟨by show 0 < 1000000; decide, ?_⟩
    refine viS_run rfl (fun k h => ⟨Nat.le_of_ble_eq_true rfl, h⟩) rfl (itN (by decide +kernel) ?_)
    refine or_run rfl (itN (by decide +kernel) (kv_if rfl (itN (by decide +kernel) (kv_if rfl (itN (by decide +kernel) (kv_if rfl (itN (by decide +kernel) (kv_if rfl (itP rfl ?_)))))))))
    refine seq_run ⟨(⟨o, b + 1, [], []⟩ : WN).new, [], _, _, rfl, rfl, ⟨rfl, rfl, rfl⟩, by show 9 < 14; decide, by show 10 < 14; decide, ?_⟩
    refine seq_run ?_
    refine given_loop (ls.map Dt.str) [] (putT [] (idk (o, b + 1)) (.str nm)) (⟨o, b + 1, [], []⟩ : WN).new.new .no (by rw [List.length_map]; show 0 + ls.length ≤ 1000; omega) (by rw [List.length_map]; show 1 + ls.length ≤ 1000; omega) fun b11 => ?_
    refine setL_run ⟨Nat.le_of_ble_eq_true rfl, by show 7 < 14; decide, ?_⟩
    exact rest_w fun ρ => fin _ _ _ rfl
  | @if_ t dt =>
    cases ew
    refine seq_run ⟨by show 5 < 14; decide, by show 6 < 14; decide, ?_⟩
    refine viS_run rfl (fun k h => ⟨Nat.le_of_ble_eq_true rfl, h⟩) rfl (itN (by decide +kernel) ?_)
    refine viS_run rfl (fun k h => ⟨Nat.le_of_ble_eq_true rfl, h⟩) rfl (itN (by decide +kernel) ?_)
    refine or_run rfl (itN (by decide +kernel) (kv_if rfl (itN (by decide +kernel) (kv_if rfl (itN (by decide +kernel) (kv_if rfl (itN (by decide +kernel) (kv_if rfl (itN (by decide +kernel) (kv_if rfl (itP rfl ?_)))))))))))
    refine seq_run ⟨⟨o, b + 1, [], []⟩, [t.dt], _, _, rfl, rfl, ⟨t, rfl, dt.up, Nat.le_of_ble_eq_true rfl, Nat.le_of_ble_eq_true rfl, rfl, rfl⟩, ((⟨o, b + 1, [], []⟩ : WN).term t).2, [], _, _, rfl, rfl, ⟨rfl, rfl, rfl⟩, by show 12 < 14; decide, by show 13 < 14; decide, ?_⟩
    refine setL_run ⟨((⟨o, b + 1, [], []⟩ : WN).term t).2.new, [], _, _, rfl, rfl, ⟨rfl, rfl, rfl⟩, Nat.le_of_ble_eq_true rfl, by show 7 < 14; decide, ?_⟩
    exact rest_w fun ρ => fin _ _ _ rfl
  | @rep_ t dt =>
    cases ew
    refine seq_run ⟨by show 5 < 14; decide, by show 6 < 14; decide, ?_⟩
    refine viS_run rfl (fun k h => ⟨Nat.le_of_ble_eq_true rfl, h⟩) rfl (itN (by decide +kernel) ?_)
    refine viS_run rfl (fun k h => ⟨Nat.le_of_ble_eq_true rfl, h⟩) rfl (itN (by decide +kernel) ?_)
    refine or_run rfl (itN (by decide +kernel) (kv_if rfl (itN (by decide +kernel) (kv_if rfl (itN (by decide +kernel) (kv_if rfl (itN (by decide +kernel) (kv_if rfl (itN (by decide +kernel) (kv_if rfl (itN (by decide +kernel) (kv_if rfl (itP rfl ?_)))))))))))))
    refine setS_run ⟨⟨o, b + 1, [], []⟩, [t.dt], _, _, rfl, rfl, ⟨t, rfl, dt.up, Nat.le_of_ble_eq_true rfl, Nat.le_of_ble_eq_true rfl, rfl, rfl⟩, by show 12 < 14; decide, ?_⟩
    refine setL_run ⟨((⟨o, b + 1, [], []⟩ : WN).term t).2, [], _, _, rfl, rfl, ⟨rfl, rfl, rfl⟩, Nat.le_of_ble_eq_true rfl, by show 7 < 14; decide, ?_⟩
    exact rest_w fun ρ => fin _ _ _ rfl
  | blk_ =>
    cases ew
    refine seq_run ⟨by show 5 < 14; decide, by show 6 < 14; decide, ?_⟩
    refine viS_run rfl (fun k h => ⟨Nat.le_of_ble_eq_true rfl, h⟩) rfl (itN (by decide +kernel) ?_)
    refine viS_run rfl (fun k h => ⟨Nat.le_of_ble_eq_true rfl, h⟩) rfl (itN (by decide +kernel) ?_)
    refine or_run rfl (itN (by decide +kernel) (kv_if rfl (itN (by decide +kernel) (kv_if rfl (itN (by decide +kernel) (kv_if rfl (itN (by decide +kernel) (kv_if rfl (itN (by decide +kernel) (kv_if rfl (itN (by decide +kernel) (kv_if rfl (itN (by decide +kernel) (?_))))))))))))))
    refine setL_run ⟨⟨o, b + 1, [], []⟩, [], _, _, rfl, rfl, ⟨rfl, rfl, rfl⟩, Nat.le_of_ble_eq_true rfl, by show 7 < 14; decide, ?_⟩
    exact rest_w fun ρ => fin _ _ _ rfl
end
end Kx
/-! part K41x -/
namespace Kx
open PySem PySem.Spec PyProof.Rows L2 My DL
/-! ### both numberings come to the same -/
structure Cor (n : NS) (v : WN) : Prop where
  o : v.o = n.o
  b : v.b = n.b
  u : n.u = dicD v.u
  t : n.t = dicD v.t
theorem dicD_snoc (l : List (Id' × Dt)) (i : Id') (x : Dt) : dicD (l ++ [(i, x)]) = putT (dicD l) (idk i) x := by
  unfold dicD putTAll
  rw [List.map_append, List.foldl_append]
  rfl
section
variable {n : NS} {v : WN}
theorem Cor.id (c : Cor n v) : v.id = n.id := by
  unfold WN.id NS.id
  rw [c.o, c.b]
theorem Cor.fresh (c : Cor n v) : Cor n.fresh v.new := ⟨c.o, by show v.b + 1 = n.b + 1; rw [c.b], c.u, c.t⟩
theorem Cor.use (c : Cor n v) (l : Dt) : Cor (n.use l) (v.use l) := ⟨c.o, by show v.b + 1 = n.b + 1; rw [c.b], by show putT n.u (idk n.id) l = dicD (v.u ++ [(v.id, l)]); rw [dicD_snoc, c.u, c.id], c.t⟩
theorem Cor.tell (c : Cor n v) (l : Dt) : Cor (n.tell l) (v.tell l) := ⟨c.o, by show v.b + 1 = n.b + 1; rw [c.b], c.u, by show putT n.t (idk n.id) l = dicD (v.t ++ [(v.id, l)]); rw [dicD_snoc, c.t, c.id]⟩
theorem Cor.decl (c : Cor n v) (l : Dt) : Cor (n.decl l) v.new := ⟨c.o, by show v.b + 1 = n.b + 1; rw [c.b], c.u, c.t⟩
theorem Cor.push (c : Cor n v) (l : List Dt) : Cor (n.push l) v := ⟨c.o, c.b, c.u, c.t⟩
end
theorem cor_expr : ∀ {m : Nat} {t : Tr}, Dr m t → ∀ {n : NS} {v : WN}, Cor n v → (n.expr t).1 = (v.term t).1 ∧ Cor (n.expr t).2 (v.term t).2
  | _, _, .num i, n, v, c => by
    refine ⟨?_, c.tell _⟩
    show Dt.tup [.str "number", idt n.id] = .tup [.str "number", idt v.id]
    rw [c.id]
  | _, _, .use i, n, v, c => by
    refine ⟨?_, c.use _⟩
    show Dt.tup [.str "use", idt n.id] = .tup [.str "use", idt v.id]
    rw [c.id]
  | _, _, .op (z := z) (l := l) (r := r) hz hl hr, n, v, c => by
    obtain ⟨h1, c1⟩ := cor_expr hl c
    obtain ⟨h2, c2⟩ := cor_expr hr c1
    refine ⟨?_, c2⟩
    show Dt.tup [.str z, (n.expr l).1, ((n.expr l).2.expr r).1] = .tup [.str z, (v.term l).1, ((v.term l).2.term r).1]
    rw [h1, h2]
theorem cor_exprL : ∀ {es : List Tr}, (∀ e ∈ es, Dr 2 e) → ∀ {n : NS} {v : WN}, Cor n v → (n.exprL es).1 = (v.termL es).1 ∧ Cor (n.exprL es).2 (v.termL es).2
  | [], _, n, v, c => ⟨rfl, c⟩
  | e :: es, h, n, v, c => by
    obtain ⟨h1, c1⟩ := cor_expr (h e List.mem_cons_self) c
    obtain ⟨h2, c2⟩ := cor_exprL (fun x hx => h x (List.mem_cons_of_mem _ hx)) c1
    refine ⟨?_, c2⟩
    show (n.expr e).1 :: ((n.expr e).2.exprL es).1 = (v.term e).1 :: ((v.term e).2.termL es).1
    rw [h1, h2]
theorem cor_given : ∀ (ls : List Dt) {n : NS} {v : WN}, Cor n v → (n.declL ls).1 = (v.given n.d ls).1.map idt ∧ (n.declL ls).2.d = (v.given n.d ls).2.1 ∧ Cor (n.declL ls).2 (v.given n.d ls).2.2
  | [], n, v, c => ⟨rfl, rfl, c⟩
  | l :: ls, n, v, c => by
    obtain ⟨h1, h2, c2⟩ := cor_given ls (c.decl l)
    have e : (n.decl l).d = putT n.d (idk v.id) l := by
      show putT n.d (idk n.id) l = _
      rw [c.id]
    rw [e] at h1 h2 c2
    refine ⟨?_, h2, c2⟩
    show idt n.id :: ((n.decl l).declL ls).1 = (v.id :: (v.new.given (putT n.d (idk v.id) l) ls).1).map idt
    rw [h1, List.map_cons, c.id]
theorem expr_d (t : Tr) (n : NS) : (n.expr t).2.d = n.d := by
  induction t generalizing n with
  | leaf d =>
    show (n.leaf d).2.d = n.d
    unfold NS.leaf
    split <;> rfl
  | op z l r h1 h2 => exact (h2 _).trans (h1 n)
theorem exprL_d : ∀ (es : List Tr) (n : NS), (n.exprL es).2.d = n.d
  | [], n => rfl
  | e :: es, n => (exprL_d es _).trans (expr_d e n)
theorem cor0 (o : Str) (b : Int) : Cor (sk0 o b).fresh ⟨o, b + 1 + 1, [], []⟩ := ⟨rfl, rfl, rfl, rfl⟩
theorem wsk_eq {o : Str} {b : Int} {row : Rw} (dr : SkD row) : (wsk ⟨o, b + 1 + 1, [], []⟩ row).dt = .tup [skC o b row, .dct (skP o b row).2.d, .dct (skP o b row).2.u, .dct (skP o b row).2.t, .int (skB o b row)] := by
  have fin : ∀ {c c' : Dt} {nm : Dc} {n : NS} {v : WN} {bb : Int}, c = c' → nm = n.d → Cor n v → bb = n.b → (WR.mk c nm v).dt = .tup [c', .dct n.d, .dct n.u, .dct n.t, .int bb] := fun h1 h2 c h3 => by
    subst h1
    subst h2
    subst h3
    show Dt.tup [_, _, .dct (dicD _), .dct (dicD _), .int _] = _
    rw [← c.u, ← c.t, c.b]
  have c0 := cor0 o b
  cases dr with
  | @let_ nm t dt =>
    obtain ⟨h1, c1⟩ := cor_expr dt (c0.decl (.str nm))
    refine fin ?_ ?_ c1 rfl
    · show Dt.tup [_, _, _] = Dt.tup [_, _, _]
      rw [h1]
      rfl
    · exact (expr_d t ((sk0 o b).fresh.decl (.str nm))).symm
  | @set_ i t dt =>
    obtain ⟨h1, c1⟩ := cor_expr dt (c0.use (idt i))
    refine fin ?_ ?_ c1 rfl
    · show Dt.tup [_, _, _] = Dt.tup [_, _, _]
      rw [h1]
      rfl
    · exact (expr_d t ((sk0 o b).fresh.use (idt i))).symm
  | @read_ i => exact fin rfl rfl (c0.use (idt i)) rfl
  | @out_ t dt =>
    obtain ⟨h1, c1⟩ := cor_expr dt c0
    refine fin ?_ ?_ c1 rfl
    · show Dt.tup [_, _] = Dt.tup [_, _]
      rw [h1]
    · exact (expr_d t (sk0 o b).fresh).symm
  | @do_ i es hd he =>
    obtain ⟨h1, c1⟩ := cor_exprL hd (c0.use (idt i))
    refine fin ?_ ?_ c1 rfl
    · show Dt.tup [_, _, .tup _] = Dt.tup [_, _, .tup _]
      rw [h1]
      rfl
    · exact (exprL_d es ((sk0 o b).fresh.use (idt i))).symm
  | @def_ nm ls hle =>
    obtain ⟨h1, h2, c1⟩ := cor_given (ls.map Dt.str) (c0.decl (.str nm)).fresh
    refine fin ?_ ?_ (c1.push (entries (idt ((sk0 o b).fresh.decl (.str nm)).id) [])) rfl
    · show Dt.tup [_, _, .tup _, _] = Dt.tup [_, _, .tup _, _]
      rw [h1]
      rfl
    · exact h2.symm
  | @if_ t dt =>
    obtain ⟨h1, c1⟩ := cor_expr dt c0
    refine fin (n := (skP o b (.if_ t [] [])).2.fresh) ?_ ?_ ((c1.push _).fresh.push _).fresh rfl
    · show Dt.tup [_, _, _, _] = Dt.tup [_, _, _, _]
      rw [h1, c1.id, c1.fresh.id]
      rfl
    · exact (expr_d t (sk0 o b).fresh).symm
  | @rep_ t dt =>
    obtain ⟨h1, c1⟩ := cor_expr dt c0
    refine fin ?_ ?_ (c1.fresh.push _) rfl
    · show Dt.tup [_, _, _] = Dt.tup [_, _, _]
      rw [h1, c1.id]
    · exact (expr_d t (sk0 o b).fresh).symm
  | blk_ => exact fin rfl rfl (c0.fresh.push _) rfl
end Kx
/-! part K41y -/
namespace Kx
open PySem PySem.Spec PyProof.Rows L2 My DL
theorem expr_tr : ∀ {m : Nat} {t : Tr}, Dr m t → ∀ n : NS, ∃ t', Du m t' ∧ (n.expr t).1 = t'.dt
  | _, _, .num i, n => ⟨.leaf (.tup [.str "number", .tup [.str n.o, .int n.b]]), .leaf (by decide +kernel), rfl⟩
  | _, _, .use i, n => ⟨.leaf (.tup [.str "use", .tup [.str n.o, .int n.b]]), .leaf (by decide +kernel), rfl⟩
  | _, _, .op (z := z) (l := l) (r := r) hz hl hr, n => by
    obtain ⟨l', d1, e1⟩ := expr_tr hl n
    obtain ⟨r', d2, e2⟩ := expr_tr hr (n.expr l).2
    refine ⟨.op z l' r', .op (List.contains_iff_mem.mpr hz) d1 d2, ?_⟩
    show Dt.tup [.str z, (n.expr l).1, ((n.expr l).2.expr r).1] = .tup [.str z, l'.dt, r'.dt]
    rw [e1, e2]
theorem exprL_tr : ∀ {es : List Tr}, (∀ e ∈ es, Dr 2 e) → ∀ n : NS, ∃ ts : List Tr, (∀ t ∈ ts, Du 2 t) ∧ (n.exprL es).1 = ts.map Tr.dt ∧ ts.length = es.length
  | [], _, n => ⟨[], (fun t h => nomatch h), rfl, rfl⟩
  | e :: es, h, n => by
    obtain ⟨t, d1, e1⟩ := expr_tr (h e List.mem_cons_self) n
    obtain ⟨ts, d2, e2, l⟩ := exprL_tr (fun x hx => h x (List.mem_cons_of_mem _ hx)) (n.expr e).2
    refine ⟨t :: ts, fun x hx => ?_, ?_, by rw [List.length_cons, List.length_cons, l]⟩
    · rcases List.mem_cons.mp hx with rfl | hx
      · exact d1
      · exact d2 x hx
    · show (n.expr e).1 :: ((n.expr e).2.exprL es).1 = _
      rw [e1, e2]
      rfl
theorem Du.up : ∀ {m : Nat} {t : Tr}, Du m t → Du (m + 1) t
  | _, _, .leaf h => .leaf h
  | _, _, .op hz hl hr => .op hz hl.up hr.up
theorem declL_id : ∀ (ls : List Dt) (n : NS), ∃ is : List Id', (n.declL ls).1 = is.map idt ∧ is.length = ls.length
  | [], n => ⟨[], rfl, rfl⟩
  | l :: ls, n => by
    obtain ⟨is, e, le⟩ := declL_id ls (n.decl l)
    refine ⟨n.id :: is, ?_, by rw [List.length_cons, List.length_cons, le]⟩
    show idt n.id :: ((n.decl l).declL ls).1 = _
    rw [e]
    rfl
theorem LikeD.up : ∀ {m : Nat} {d : Dt}, LikeD m d → LikeD (m + 1) d := by
  intro m d h
  induction h with
  | int i => exact .int i
  | str z => exact .str z
  | lst l _ ih => exact .lst l ih
  | tup l _ ih => exact .tup l ih
theorem LikeD.le {m k : Nat} {d : Dt} (h : LikeD m d) (l : m ≤ k) : LikeD k d := by
  induction l with
  | refl => exact h
  | step _ ih => exact ih.up
theorem like_all2 {m : Nat} {a b : Dt} (h1 : LikeD m a) (h2 : LikeD m b) : ∀ d ∈ [a, b], LikeD m d := fun d h => by
  rcases List.mem_cons.mp h with rfl | h
  · exact h1
  · rw [List.mem_singleton.mp h]
    exact h2
theorem like_cons {m : Nat} {a : Dt} {r : List Dt} (h1 : LikeD m a) (h2 : ∀ d ∈ r, LikeD m d) : ∀ d ∈ a :: r, LikeD m d := fun d h => by
  rcases List.mem_cons.mp h with rfl | h
  · exact h1
  · exact h2 d h
theorem like_nil {m : Nat} : ∀ d ∈ ([] : List Dt), LikeD m d := fun d h => nomatch h
theorem like_id (i : Id') : LikeD 1 (idt i) := .tup (Nat.le_of_ble_eq_true rfl) (like_cons (.str _) (like_cons (.int _) like_nil))
theorem Du.like : ∀ {m : Nat} {t : Tr}, Du m t → LikeD (m + 2) t.dt
  | m, _, .leaf (u := u) (x := x) (n := n) h => (LikeD.tup (m := 1) (ds := [.str u, idt (x, n)]) (Nat.le_of_ble_eq_true rfl) (like_cons (.str _) (like_cons (like_id _) like_nil))).le (by omega)
  | _, _, .op (m := m) (z := z) (l := l) (r := r) hz hl hr => .tup (Nat.le_of_ble_eq_true rfl) (like_cons (.str _) (like_cons hl.like (like_cons hr.like like_nil)))
theorem fine_like {c : Ct} (f : c.fine) : LikeD 8 c.dt := by
  have tr : ∀ e ∈ c.exprs, LikeD 6 e.dt := fun e he => (f.1 e he).like
  have L3 : ∀ {a b d : Dt}, LikeD 7 a → LikeD 7 b → LikeD 7 d → LikeD 8 (.tup [a, b, d]) := fun h1 h2 h3 => .tup (Nat.le_of_ble_eq_true rfl) (like_cons h1 (like_cons h2 (like_cons h3 like_nil)))
  have L2 : ∀ {a b : Dt}, LikeD 7 a → LikeD 7 b → LikeD 8 (.tup [a, b]) := fun h1 h2 => .tup (Nat.le_of_ble_eq_true rfl) (like_cons h1 (like_cons h2 like_nil))
  have L4 : ∀ {a b d e : Dt}, LikeD 7 a → LikeD 7 b → LikeD 7 d → LikeD 7 e → LikeD 8 (.tup [a, b, d, e]) := fun h1 h2 h3 h4 => .tup (Nat.le_of_ble_eq_true rfl) (like_cons h1 (like_cons h2 (like_cons h3 (like_cons h4 like_nil))))
  have i7 : ∀ i, LikeD 7 (idt i) := fun i => (like_id i).le (by decide)
  cases c with
  | let_ i e => exact L3 (.str _) (i7 i) ((tr e List.mem_cons_self).up)
  | set_ i e => exact L3 (.str _) (i7 i) ((tr e List.mem_cons_self).up)
  | read_ i => exact L2 (.str _) (i7 i)
  | out_ e => exact L2 (.str _) ((tr e List.mem_cons_self).up)
  | do_ i es =>
    have l : es.length ≤ 100 := f.2.1
    refine L3 (.str _) (i7 i) (.tup (by rw [List.length_map]; omega) fun d hd => ?_)
    obtain ⟨e, he, rfl⟩ := List.mem_map.mp hd
    exact tr e he
  | def_ i ps b =>
    have l : ps.length ≤ 1000 := f.2.2
    refine L4 (.str _) (i7 i) (.tup (by rw [List.length_map]; omega) fun d hd => ?_) (i7 b)
    obtain ⟨e, he, rfl⟩ := List.mem_map.mp hd
    exact (like_id e).le (by decide)
  | if_ e b c => exact L4 (.str _) ((tr e List.mem_cons_self).up) (i7 b) (i7 c)
  | rep_ e b => exact L3 (.str _) ((tr e List.mem_cons_self).up) (i7 b)
  | blk_ b => exact L2 (.str _) (i7 b)
theorem sk_ct {o : Str} {b : Int} {row : Rw} (dr : SkD row) : ∃ c : Ct, skC o b row = c.dt ∧ c.fine := by
  have one : ∀ {t : Tr}, Du 4 t → ∀ e ∈ [t], Du 4 e := fun h e he => by
    rw [List.mem_singleton.mp he]
    exact h
  cases dr with
  | @let_ nm t dt =>
    obtain ⟨t', d, e⟩ := expr_tr dt ((sk0 o b).fresh.decl (.str nm))
    exact ⟨.let_ (sk0 o b).fresh.id t', by show Dt.tup [_, _, _] = Dt.tup [_, _, _]; rw [e] <;> rfl, one d, Nat.le_of_ble_eq_true rfl, trivial⟩
  | @set_ i t dt =>
    obtain ⟨t', d, e⟩ := expr_tr dt ((sk0 o b).fresh.use (idt i))
    exact ⟨.set_ (sk0 o b).fresh.id t', by show Dt.tup [_, _, _] = Dt.tup [_, _, _]; rw [e] <;> rfl, one d.up, Nat.le_of_ble_eq_true rfl, trivial⟩
  | @read_ i => exact ⟨.read_ (sk0 o b).fresh.id, rfl, (fun e h => nomatch h), Nat.zero_le _, trivial⟩
  | @out_ t dt =>
    obtain ⟨t', d, e⟩ := expr_tr dt (sk0 o b).fresh
    exact ⟨.out_ t', by show Dt.tup [_, _] = Dt.tup [_, _]; rw [e] <;> rfl, one d.up, Nat.le_of_ble_eq_true rfl, trivial⟩
  | @do_ i es hd he =>
    obtain ⟨ts, d, e, l⟩ := exprL_tr hd ((sk0 o b).fresh.use (idt i))
    exact ⟨.do_ (sk0 o b).fresh.id ts, by show Dt.tup [_, _, .tup _] = Dt.tup [_, _, .tup _]; rw [e] <;> rfl, fun x hx => (d x hx).up.up, by show ts.length ≤ 100; omega, trivial⟩
  | @def_ nm ls hle =>
    obtain ⟨is, e, l⟩ := declL_id (ls.map Dt.str) ((sk0 o b).fresh.decl (.str nm)).fresh
    rw [List.length_map] at l
    exact ⟨.def_ (sk0 o b).fresh.id is ((sk0 o b).fresh.decl (.str nm)).id, by show Dt.tup [_, _, .tup _, _] = Dt.tup [_, _, .tup _, _]; rw [e] <;> rfl, (fun e h => nomatch h), Nat.zero_le _, by show is.length ≤ 1000; omega⟩
  | @if_ t dt =>
    obtain ⟨t', d, e⟩ := expr_tr dt (sk0 o b).fresh
    exact ⟨.if_ t' ((sk0 o b).fresh.expr t).2.id (skP o b (.if_ t [] [])).2.id, by show Dt.tup [_, _, _, _] = Dt.tup [_, _, _, _]; rw [e] <;> rfl, one d.up, Nat.le_of_ble_eq_true rfl, trivial⟩
  | @rep_ t dt =>
    obtain ⟨t', d, e⟩ := expr_tr dt (sk0 o b).fresh
    exact ⟨.rep_ t' ((sk0 o b).fresh.expr t).2.id, by show Dt.tup [_, _, _] = Dt.tup [_, _, _]; rw [e] <;> rfl, one d.up, Nat.le_of_ble_eq_true rfl, trivial⟩
  | blk_ => exact ⟨.blk_ (sk0 o b).fresh.id, rfl, (fun e h => nomatch h), Nat.zero_le _, trivial⟩
theorem SkD.bare {row : Rw} (dr : SkD row) : row.bare := by
  cases dr <;> first | trivial | exact rfl | exact ⟨rfl, rfl⟩
theorem SkD.okr {row : Rw} (dr : SkD row) : row.ok := by
  have one : ∀ {m : Nat} {t : Tr}, m ≤ 4 → Dr m t → ∀ e ∈ [t], e.ok = true ∧ e.size ≤ 1000 := fun hm h e he => by
    rw [List.mem_singleton.mp he]
    have := h.size
    have p : 2 ^ (_ + 1) ≤ 2 ^ 5 := Nat.pow_le_pow_right (by decide) (Nat.succ_le_succ hm)
    exact ⟨h.ok, by omega⟩
  cases dr with
  | let_ dt => exact ⟨one (by decide) dt, Nat.le_of_ble_eq_true rfl, Nat.zero_le _, trivial⟩
  | set_ dt => exact ⟨one (by decide) dt, Nat.le_of_ble_eq_true rfl, Nat.zero_le _, trivial⟩
  | do_ hd he => exact ⟨fun e h => ⟨(hd e h).ok, by have := (hd e h).size; omega⟩, Nat.le_trans he (by decide), Nat.zero_le _, trivial⟩
  | def_ hle => exact ⟨(fun e h => nomatch h), Nat.zero_le _, Nat.zero_le _, by show (List.map Dt.str _).length ≤ 100; rw [List.length_map]; omega⟩
  | read_ => exact ⟨(fun e h => nomatch h), Nat.zero_le _, Nat.zero_le _, trivial⟩
  | out_ dt => exact ⟨one (by decide) dt, Nat.le_of_ble_eq_true rfl, Nat.zero_le _, trivial⟩
  | if_ dt => exact ⟨one (by decide) dt, Nat.le_of_ble_eq_true rfl, Nat.zero_le _, trivial⟩
  | rep_ dt => exact ⟨one (by decide) dt, Nat.le_of_ble_eq_true rfl, Nat.zero_le _, trivial⟩
  | blk_ => exact ⟨(fun e h => nomatch h), Nat.zero_le _, Nat.zero_le _, trivial⟩
end Kx
/-! part DL38 -/
/-! ### == of dicts whose keys are tuples, where all is alike -/
namespace PySem.W
open PySem PySem.Calls PyProof.Rows PyProof.V PySem.Spec
section
variable {prog : Program} {w : World} {K : Type} [DecidableEq K] {knd : HeapKind prog w K} {A : Around} {E : Value → Shared → Prop} {s : Shared}
theorem samePairsH {nm : String} {a b : Addr} {xa xb : List (K × Addr × Value)} {Q : Bool → Shared → Prop} (ha : (a == sysModules) = false) (hb : (b == sysModules) = false)
    (da : s.heap.DictOfH knd a xa) (db : s.heap.DictOfH knd b xb) (hu : knd.room A) (ln : xa.length = xb.length) (pr : ∀ (i : Nat) (p q : K × Addr × Value), xa[i]? = some p → xb[i]? = some q → p.1 = q.1 ∧ SeqAt.EqP prog w A s p.2.2 q.2.2 true) (h : Q true s) :
    wpAny (model prog w) A (Builtin.Dict.samePairs nm a b) Q E s := by
  obtain ⟨oa, es, ep, hoa, _, hda, hea, hia, hna⟩ := da
  obtain ⟨ob, es', ep', hob, _, hdb, heb, hib, hnb⟩ := db
  have hla : es.size = xa.length := size_of_entries hea
  have hlb : es'.size = xb.length := size_of_entries heb
  have hsz : es.size = es'.size := by rw [hla, hlb, ln]
  unfold Builtin.Dict.samePairs Builtin.Dict.showsAll
  rw [if_neg (show ¬ (a == sysModules) = true by rw [ha]; exact Bool.false_ne_true), if_neg (show ¬ (b == sysModules) = true by rw [hb]; exact Bool.false_ne_true)]
  refine wpAny_bind (wpAny_pure (wpAny_bind (wpAny_pure ?_)))
  refine wpAny_bind (wpAny_dictEntries hoa hda ?_)
  dsimp only
  refine wpAny_bind (wpAny_dictEntries hob hdb ?_)
  rw [if_neg (by rw [hsz]; simp)]
  refine wpAny_bind (wpAny_dictEpoch hoa hda ?_)
  refine wpAny_bind ?_
  rw [Std.Legacy.Range.forIn_eq_forIn_range']
  simp only [Std.Legacy.Range.size, Nat.sub_zero, Nat.add_sub_cancel, Nat.div_one]
  refine wpAny_forIn_list _ (fun rest q s' => s' = s ∧ q = (none, ()) ∧ ∃ i, rest = List.range' i (es.size - i) ∧ i ≤ es.size) _ ?_ ?_ _ _ ⟨rfl, rfl, 0, by simp, Nat.zero_le _⟩
  · rintro x rest q s' ⟨rfl, rfl, i, hr, hi⟩
    have hlt : i < es.size := by
      rcases Nat.lt_or_ge i es.size with h | h
      · exact h
      · rw [Nat.sub_eq_zero_of_le h] at hr; simp at hr
    obtain ⟨rfl, hrest⟩ : x = i ∧ rest = List.range' (i + 1) (es.size - (i + 1)) := by
      have e : es.size - i = (es.size - (i + 1)) + 1 := by omega
      rw [e, List.range'_succ] at hr
      injection hr with h1 h2
      exact ⟨h1, h2⟩
    have hxa : x < xa.length := by omega
    have hxb : x < xb.length := by omega
    obtain ⟨ek, ev⟩ := pr x xa[x] xb[x] (List.getElem?_eq_getElem hxa) (List.getElem?_eq_getElem hxb)
    have eA : es[x]? = some (entryOfKey knd xa[x]) := by rw [entry_at hea x, List.getElem?_eq_getElem hxa]; rfl
    have eB : es'[x]? = some (entryOfKey knd xb[x]) := by rw [entry_at heb x, List.getElem?_eq_getElem hxb]; rfl
    refine wpAny_bind (wpAny_dictEntries hoa hda ?_)
    rw [eA]
    show wpAny _ _ (holding [(entryOfKey knd xa[x]).key, (entryOfKey knd xa[x]).val] _ >>= _) _ _ _
    refine wpAny_bind (wpAny_holding (wpAny_bind ?_))
    show wpAny _ _ (dictFind b (.ref xa[x].2.1) (knd.hash xa[x].1)) _ _ _
    refine wpAny_dictFind_heap hu (hia _ (List.getElem_mem hxa)) hob hdb heb hib hnb (fun hno => ?_) (fun j p hj => ?_)
    · exact absurd (show xb[x]? = some (xa[x].1, xb[x].2) by rw [List.getElem?_eq_getElem hxb, ek]) (hno x xb[x].2)
    · have hjl : j < xb.length := (List.getElem?_eq_some_iff.mp hj).1
      have ej : xb[j] = (xa[x].1, p) := (List.getElem?_eq_some_iff.mp hj).2
      have hjx : j = x := by
        have h1 : (xb.map (·.1))[j]? = (xb.map (·.1))[x]? := by
          rw [List.getElem?_map, List.getElem?_map, hj, List.getElem?_eq_getElem hxb]
          show some xa[x].1 = some xb[x].1
          rw [ek]
        exact (List.getElem?_inj (by rw [List.length_map]; exact hjl) hnb).mp h1
      subst hjx
      refine wpAny_bind (wpAny_dictEntries hob hdb ?_)
      rw [eB]
      refine wpAny_holding (ev _ _ ?_)
      show wpAny _ _ (if (!true) = true then _ else _) _ _ _
      rw [if_neg (by decide)]
      refine wpAny_bind (wpAny_dictEpoch hoa hda ?_)
      rw [if_neg (by simp)]
      exact wpAny_pure ⟨rfl, rfl, j + 1, hrest, hlt⟩
  · rintro q s' ⟨rfl, rfl, i, hr, hi⟩
    exact wpAny_pure h
theorem rcH_dicts {a b : Addr} {xa xb : List (K × Addr × Value)} (ha : (a == sysModules) = false) (hb : (b == sysModules) = false)
    (da : s.heap.DictOfH knd a xa) (db : s.heap.DictOfH knd b xb) (hu : A.units < cLine) (hk : knd.room A.in1) (ln : xa.length = xb.length) (pr : ∀ (i : Nat) (p q : K × Addr × Value), xa[i]? = some p → xb[i]? = some q → p.1 = q.1 ∧ SeqAt.EqP prog w A.in1 s p.2.2 q.2.2 true) (E Q : Value → Shared → Prop) (h : Q (.bool true) s) : wpAny (model prog w) A (richCompare .Eq (.ref a) (.ref b)) Q E s := by
  have ta : s.TypeIs (.ref a) "dict" := let ⟨o, _, _, ho, hc, _⟩ := da; ⟨o, ho, hc.1⟩
  have tb : s.TypeIs (.ref b) "dict" := let ⟨o, _, _, ho, hc, _⟩ := db; ⟨o, ho, hc.1⟩
  refine wpAny_richCompare_same_room (op := .Eq) ta tb PySem.F.slot_dict_eq (wpAny_call_entry PySem.F.slot_dict_eq ta PySem.F.entry_dict_eq ?_ (PySem.F.args_dict_eq_2 _ _)) hu
  show wpAny _ _ (Builtin.Dict.dictSlotArgs "__eq__" ⟨[.ref a, .ref b], []⟩ >>= _) _ _ s
  refine wpAny_bind ?_
  unfold Builtin.Dict.dictSlotArgs
  refine wpAny_bind (wpAny_notOrdered_dict ta ?_)
  show wpAny _ _ (pure (Value.ref a, Value.ref b)) _ _ s
  refine wpAny_pure ?_
  refine wpAny_bind (wpAny_isInstance (T := "dict") tb PySem.F.sub_dict_dict ?_)
  simp only [Bool.not_true, Bool.false_eq_true, if_false]
  refine wpAny_bind (wpAny_pure (wpAny_bind (wpAny_pure ?_)))
  refine wpAny_bind (samePairsH ha hb da db hk ln pr ?_)
  refine wpAny_pure ⟨_, rfl, ?_, ?_⟩
  · exact fun x => nomatch x
  · simpa using h
end
end PySem.W
/-! part DL39 -/
/-! != of two lists whose items are all equal: False; what stands for the same plain data is equal; two dicts of the same data are equal -/
namespace PySem.SeqAt
open AutoSeq1 (wpAny_loadPart')
open MeetsSeq MeetsSeq2 MeetsSeq3 SeqRoads2
section
variable {prog : Program} {w : World}
theorem same_loop (l b : Addr) (xs ys : Array Value) (n n2 : Nat) (dd dd2 : Option Addr) (sl sl2 : Array (Option Value)) (hsz : xs.size = ys.size) :
    ∀ (k i : Nat), xs.size - i = k → MeetsIn prog w (Builtin.«list.__eq__.loop» ⟨[.ref l, .ref b, rawInt i, rawInt 3], []⟩)
      (fun A R s => (s.heap.get? l = some { cls := .type "list", dict := dd, data := .seq xs n, slots := sl } ∧ s.heap.get? b = some { cls := .type "list", dict := dd2, data := .seq ys n2, slots := sl2 }) ∧
        (∀ j (h1 : j < xs.size) (h2 : j < ys.size), EqP prog w A.in1 s xs[j] ys[j] true) ∧ R (.ok (.ret (.bool false))) s)
  | 0, i, hk, A, R, s, h => by
    obtain ⟨hp, g, d, tk, os⟩ := s; obtain ⟨⟨hl, hb⟩, he, h⟩ := h
    wp_walk using wpAny_loadPart' hl, wpAny_loadPart' hb
    rw [show xs[((i : Nat) : Int).toNat]? = none by simp; omega, show ys[((i : Nat) : Int).toNat]? = none by simp; omega]
    wp_walk using wpAny_loadPart' hl, wpAny_loadPart' hb
    show R (.ok (.ret (.bool (xs.size != ys.size)))) _
    rw [hsz]
    simpa using h
  | k + 1, i, hk, A, R, s, h => by
    obtain ⟨hp, g, d, tk, os⟩ := s; obtain ⟨⟨hl, hb⟩, he, h⟩ := h
    have h1 : i < xs.size := by omega
    have h2 : i < ys.size := by omega
    wp_walk using wpAny_loadPart' hl, wpAny_loadPart' hb
    rw [show xs[((i : Nat) : Int).toNat]? = some xs[i] by simp [h1], show ys[((i : Nat) : Int).toNat]? = some ys[i] by simp [h2]]
    refine wpAny_bind (he i h1 h2 _ _ ?_)
    wp_walk
    rw [show ((i : Int) + 1) = ((i + 1 : Nat) : Int) by push_cast; rfl]
    exact ⟨plainId_quiet plain_eq_loop _, codeAny_builtin entry_eq_loop (by
      rw [Around.under_plainId plain_eq_loop _]
      exact same_loop l b xs ys n n2 dd dd2 sl sl2 hsz k (i + 1) (by omega) A R _ ⟨⟨hl, hb⟩, he, h⟩)⟩
theorem same_ne (l b : Addr) (xs ys : Array Value) (n n2 : Nat) (dd dd2 : Option Addr) (sl sl2 : Array (Option Value)) (hsz : xs.size = ys.size) : MeetsIn prog w (Builtin.«list.__ne__» ⟨[.ref l, .ref b], []⟩)
      (fun A R s => (s.heap.get? l = some { cls := .type "list", dict := dd, data := .seq xs n, slots := sl } ∧ s.heap.get? b = some { cls := .type "list", dict := dd2, data := .seq ys n2, slots := sl2 }) ∧
        (∀ j (h1 : j < xs.size) (h2 : j < ys.size), EqP prog w A.in1 s xs[j] ys[j] true) ∧ R (.ok (.ret (.bool false))) s) := by
  intro A R s h
  obtain ⟨hp, g, d, tk, os⟩ := s; obtain ⟨⟨hl, hb⟩, he, h⟩ := h
  have f3 := AutoSeq1.sub_list_list
  have hne : ¬ (xs.size != ys.size) = true := by simp [hsz]
  wp_walk using wpAny_loadPart' hl, wpAny_loadPart' hb
  exact ⟨plainId_quiet plain_eq_loop _, codeAny_builtin entry_eq_loop (by
    rw [Around.under_plainId plain_eq_loop _]
    exact same_loop l b xs ys n n2 dd dd2 sl sl2 hsz _ 0 rfl A R _ ⟨⟨hl, hb⟩, he, h⟩)⟩
theorem rcNe_same {A : Around} {s : Shared} {l b : Addr} {xs ys : Array Value} (hl : s.heap.IsList l xs) (hb : s.heap.IsList b ys) (hsz : xs.size = ys.size) (hu : A.units < cLine)
    (he : ∀ j (h1 : j < xs.size) (h2 : j < ys.size), EqP prog w A.in1 s xs[j] ys[j] true) (E Q : Value → Shared → Prop) (h : Q (.bool false) s) : wpAny (model prog w) A (richCompare .NotEq (.ref l) (.ref b)) Q E s := by
  obtain ⟨⟨cls, dd, data, sl⟩, ho, hc, n, hd⟩ := id hl
  obtain ⟨⟨cls2, dd2, data2, sl2⟩, ho2, hc2, n2, hd2⟩ := id hb
  simp only at hc hd hc2 hd2
  subst hc hd hc2 hd2
  have ta : s.TypeIs (.ref l) "list" := ⟨_, ho, rfl⟩
  have tb : s.TypeIs (.ref b) "list" := ⟨_, ho2, rfl⟩
  exact wpAny_richCompare_same_room (op := .NotEq) ta tb F.slot_list_ne (call_meetsIn F.slot_list_ne ta F.entry_list_ne (F.args_list_ne_2 _ _) (same_ne l b xs ys n n2 dd dd2 sl sl2 hsz)
    ⟨⟨ho, ho2⟩, he, show Value.bool false ≠ Value.notImplemented ∧ Q (.bool false) s from ⟨(fun x => nomatch x), h⟩⟩) hu
end
end PySem.SeqAt
namespace DL
open PySem PySem.Spec PyProof.Rows L2 My
section
variable {X : Cx} {pins : List (Addr × Obj)} {σ : L2.St} {H : Hp} {s : Shared}
/-- plain data, small: a number, a text, a tuple of such -/
def Dt.atm : Dt → Bool
  | .int _ => true
  | .str _ => true
  | _ => false
def Dt.small : Dt → Prop
  | .int _ => True
  | .str _ => True
  | .tup ds => ∀ d ∈ ds, d.atm = true
  | _ => False
theorem eqp_atm {H : Hp} {s : Shared} {K : PySem.W.Frag} {A : Around} {d : Dt} (hd : d.atm = true) {x y : V} {v u : Value} (hx : DX K H x d) (hy : DX K H y d) (rx : RelV x v) (ry : RelV y u) : SeqAt.EqAt A s v u true := by
  cases hx with
  | int i =>
    cases hy
    obtain ⟨t, rfl⟩ := rx
    obtain ⟨t', rfl⟩ := ry
    have k := SeqAt.EqAt.int_int (A := A) (s := s) i t i t'
    rwa [beq_self_eq_true] at k
  | str i =>
    cases hy
    obtain ⟨t, rfl⟩ := rx
    obtain ⟨t', rfl⟩ := ry
    have k := SeqAt.EqAt.str_str (A := A) (s := s) i t i t'
    rwa [beq_self_eq_true] at k
  | _ => exact absurd hd Bool.false_ne_true
theorem eqp_atms {H : Hp} {s : Shared} {K : PySem.W.Frag} {A : Around} : ∀ {ds : List Dt} {xs ys : List V} {us ws : List Value}, (∀ d ∈ ds, d.atm = true) → DXs K H xs ds → DXs K H ys ds → Vals xs us → Vals ys ws →
    ∀ (j : Nat) (h1 : j < us.length) (h2 : j < ws.length), SeqAt.EqAt A s us[j] ws[j] true
  | [], _, _, _, _, _, .nil, .nil, r1, r2, j, h1, h2 => by
    cases r1
    exact absurd h1 (Nat.not_lt_zero _)
  | d :: ds, _, _, _, _, hs, .cons a1 b1, .cons a2 b2, r1, r2, j, h1, h2 => by
    cases r1 with
    | cons e1 t1 =>
      cases r2 with
      | cons e2 t2 =>
        cases j with
        | zero => exact eqp_atm (hs _ List.mem_cons_self) a1 a2 e1 e2
        | succ j => exact eqp_atms (fun d hd => hs d (List.mem_cons_of_mem _ hd)) b1 b2 t1 t2 j (Nat.lt_of_succ_lt_succ h1) (Nat.lt_of_succ_lt_succ h2)
theorem eqp_small (I : Inv X pins σ H s) {A : Around} (hu : A.units + 64 < cLine) {d : Dt} (hd : d.small) {x y : V} {v u : Value} (hx : DX X.K H x d) (hy : DX X.K H y d) (rx : RelV x v) (ry : RelV y u) : SeqAt.EqP X.prog X.w A s v u true := by
  cases d with
  | int i => exact (eqp_atm rfl hx hy rx ry).eqP
  | str i => exact (eqp_atm rfl hx hy rx ry).eqP
  | tup ds =>
    cases hx with
    | @tup a xs _ ha la ka =>
    cases hy with
    | @tup b ys _ hb lb kb =>
      cases (show v = Value.ref a from rx)
      cases (show u = Value.ref b from ry)
      by_cases e : a = b
      · subst e
        exact (SeqAt.EqAt.same _).eqP
      · obtain ⟨us, r1, ⟨o1, p1, c1, n1⟩, _⟩ := I.tuple (.inl (.inl ha))
        obtain ⟨ws, r2, ⟨o2, p2, c2, n2⟩, _⟩ := I.tuple (.inl (.inl hb))
        have k := SeqAt.EqAt.of_refs e (SeqAt.RcAt.tuples (A := A) (e := fun _ => true) ⟨o1, p1, c1, n1⟩ ⟨o2, p2, c2, n2⟩ (by omega) fun j h1 h2 => by
          have k := eqp_atms (A := A.in1) (s := s) hd ka kb r1 r2 j (by simpa using h1) (by simpa using h2)
          simpa using k)
        have l : us.toArray.size = ws.toArray.size := by
          rw [List.size_toArray, List.size_toArray, ← r1.length, ← r2.length, ka.len, kb.len]
        have z : ((List.range (min us.toArray.size ws.toArray.size)).all (fun _ => true) && us.toArray.size == ws.toArray.size) = true := by
          rw [l]
          simp
        rw [z] at k
        exact k.eqP
  | _ => exact hd.elim
theorem keys_len : ∀ {ks : List (List Key × V)} {xs : List (List Key × Addr × Value)}, KT H ks xs → ks.length = xs.length := fun r => Paired.length r
theorem pairs_small (I : Inv X pins σ H s) {A : Around} (hu : A.units + 64 < cLine) : ∀ {ps : List (List Key × Dt)} {ks ls : List (List Key × V)} {xs ys : List (List Key × Addr × Value)}, (∀ p ∈ ps, p.2.small) → DXt X.K H ks ps → DXt X.K H ls ps → KT H ks xs → KT H ls ys →
    ∀ (i : Nat) (p q : List Key × Addr × Value), xs[i]? = some p → ys[i]? = some q → p.1 = q.1 ∧ SeqAt.EqP X.prog X.w A s p.2.2 q.2.2 true
  | [], _, _, _, _, _, .nil, .nil, r1, r2, i, p, q, h1, h2 => by
    cases r1
    simp at h1
  | pr :: ps, _, _, _, _, hs, .cons a1 b1, .cons a2 b2, r1, r2, i, p, q, h1, h2 => by
    cases r1 with
    | cons e1 t1 =>
      cases r2 with
      | cons e2 t2 =>
        cases i with
        | zero =>
          rw [List.getElem?_cons_zero] at h1 h2
          cases h1
          cases h2
          exact ⟨e1.1.symm.trans e2.1, eqp_small I hu (hs _ List.mem_cons_self) a1 a2 e1.2.2 e2.2.2⟩
        | succ i =>
          rw [List.getElem?_cons_succ] at h1 h2
          exact pairs_small I hu (fun p hp => hs p (List.mem_cons_of_mem _ hp)) b1 b2 t1 t2 i p q h1 h2
theorem eqp_dct (I : Inv X pins σ H s) {A : Around} (hu : A.units + 70 < cLine) {ps : List (List Key × Dt)} (hs : ∀ p ∈ ps, p.2.small) {x y : V} {v u : Value} (hx : DX X.K H x (.dct ps)) (hy : DX X.K H y (.dct ps)) (rx : RelV x v) (ry : RelV y u) : SeqAt.EqP X.prog X.w A s v u true := by
  cases hx with
  | @dct a ks _ ha ka =>
    cases hy with
    | @dct b ls _ hb kb =>
      cases (show v = Value.ref a from rx)
      cases (show u = Value.ref b from ry)
      by_cases e : a = b
      · subst e
        exact (SeqAt.EqAt.same _).eqP
      · obtain ⟨_, na, xs, ra, da⟩ := dt_of I.hok ha
        obtain ⟨_, nb, ys, rb, db⟩ := dt_of I.hok hb
        refine SeqAt.eqP_refs e fun E Q q => ?_
        refine PySem.W.rcH_dicts na nb da db (by omega) (show A.units + 1 < cLine by omega) (by rw [← keys_len ra, ← keys_len rb, ka.len, kb.len]) (pairs_small I (A := A.in1) (show A.units + 1 + 64 < cLine by omega) hs ka kb ra rb) E Q q
def Dt.alike : Dt → Prop
  | .dct ps => ∀ p ∈ ps, p.2.small
  | d => d.small
theorem eqp_alike (I : Inv X pins σ H s) {A : Around} (hu : A.units + 70 < cLine) {d : Dt} (hs : d.alike) {x y : V} {v u : Value} (hx : DX X.K H x d) (hy : DX X.K H y d) (rx : RelV x v) (ry : RelV y u) : SeqAt.EqP X.prog X.w A s v u true := by
  cases d with
  | dct ps => exact eqp_dct I hu hs hx hy rx ry
  | _ =>
    refine eqp_small I (by omega) ?_ hx hy rx ry
    exact hs
theorem eqp_items (I : Inv X pins σ H s) {A : Around} (hu : A.units + 70 < cLine) : ∀ {ds : List Dt} {xs ys : List V} {us ws : List Value}, (∀ d ∈ ds, d.alike) → DXs X.K H xs ds → DXs X.K H ys ds → Vals xs us → Vals ys ws →
    ∀ (j : Nat) (h1 : j < us.length) (h2 : j < ws.length), SeqAt.EqP X.prog X.w A s us[j] ws[j] true
  | [], _, _, _, _, _, .nil, .nil, r1, r2, j, h1, h2 => by
    cases r1
    exact absurd h1 (Nat.not_lt_zero _)
  | d :: ds, _, _, _, _, hs, .cons a1 b1, .cons a2 b2, r1, r2, j, h1, h2 => by
    cases r1 with
    | cons e1 t1 =>
      cases r2 with
      | cons e2 t2 =>
        cases j with
        | zero => exact eqp_alike I hu (hs _ List.mem_cons_self) a1 a2 e1 e2
        | succ j => exact eqp_items I hu (fun d hd => hs d (List.mem_cons_of_mem _ hd)) b1 b2 t1 t2 j (Nat.lt_of_succ_lt_succ h1) (Nat.lt_of_succ_lt_succ h2)
end
section
variable {X : Cx}
/-- a != b, two lists of the same data: False -/
def rNeS (K : PySem.W.Frag) : R2 := fun x y H Q => ∃ ds : List Dt, DX K H x (.lst ds) ∧ DX K H y (.lst ds) ∧ (∀ d ∈ ds, d.alike) ∧ Q (.bl false) H
theorem op_neS (hu : X.A.units + 80 < cLine) : OpR X (compareOp .NotEq) (rNeS X.K) := by
  intro pins s σ H x y v u Q I rx ry h
  obtain ⟨ds, hx, hy, hs, q⟩ := h
  cases hx with
  | @lst a xs _ ha la ka =>
    cases hy with
    | @lst b ys _ hb lb kb =>
      cases (show v = Value.ref a from rx)
      cases (show u = Value.ref b from ry)
      obtain ⟨us, r1, p1, _⟩ := I.list (.inl (.inl ha))
      obtain ⟨ws, r2, p2, _⟩ := I.list (.inl (.inl hb))
      refine SeqAt.rcNe_same p1.isList p2.isList ?_ (by omega) (fun j h1 h2 => ?_) _ _ ⟨.bl false, H, I, rfl, q⟩
      · rw [List.size_toArray, List.size_toArray, ← r1.length, ← r2.length, ka.len, kb.len]
      · have k := eqp_items I (A := X.A.in1) (show X.A.units + 1 + 70 < cLine by omega) hs ka kb r1 r2 j (by simpa using h1) (by simpa using h2)
        simpa using k
end
end DL
/-! part DL40 -/
/-! d["x"] = v of a dict whose keys are tuples: what it holds is forgotten -/
namespace PySem.W
open PySem PySem.Calls PyProof.Rows PyProof.V PySem.Spec
section
variable {prog : Program} {w : World} {A : Around} {E : Value → Shared → Prop} {s : Shared} {K : Type} [DecidableEq K] {knd : KeyKind prog w K}
theorem tell_text {z : Str} {t : Tok} {stored : List Value} {Q : Bool → Shared → Prop} (hst : ∀ v ∈ stored, ∃ k' b, v = .ref b ∧ (tupleKind knd).is s.heap k' b) (h : Q false s) : wpAny (model prog w) A (tableMayTell (.str z t) stored) Q E s := by
  unfold tableMayTell
  split
  · exact wpAny_pure h
  · have e : eqIsQuiet 8 (.str z t) = pure true := by unfold eqIsQuiet; rfl
    rw [e]
    refine wpAny_bind (wpAny_pure ?_)
    simp only [Bool.not_true, Bool.false_eq_true, if_false]
    refine wpAny_bind ?_
    refine wpAny_forIn_list _ (fun rest r s' => s' = s ∧ r = (none, ()) ∧ ∀ v ∈ rest, ∃ k' b, v = .ref b ∧ (tupleKind knd).is s.heap k' b) _ ?_ ?_ _ _ ⟨rfl, rfl, hst⟩
    · rintro x rest r s' ⟨rfl, rfl, hr⟩
      obtain ⟨k', b, rfl, hb⟩ := hr x List.mem_cons_self
      refine wpAny_bind ((tupleKind knd).quiet hb ?_)
      simp only [Bool.not_true, Bool.false_eq_true, if_false]
      exact wpAny_pure ⟨rfl, rfl, fun v hv => hr v (List.mem_cons_of_mem _ hv)⟩
    · rintro r s' ⟨rfl, rfl, _⟩
      exact wpAny_pure h
theorem find_text {d : Addr} {o : Obj} {es : Array DictEntry} {ep : Nat} {xs : List (List K × Addr × Value)} {z : Str} {t : Tok} {hh : Int} {Q : Option Nat → Shared → Prop} (hu : A.units < cLine)
    (ho : s.heap.get? d = some o) (hd : o.data = .dict es ep) (he : es.toList = xs.map (entryOfKey (tupleKind knd))) (his : ∀ x ∈ xs, (tupleKind knd).is s.heap x.1 x.2.1) (h : Q none s) :
    wpAny (model prog w) A (dictFind d (.str z t) hh) Q E s := by
  have hent : ∀ (i : Nat) (e : DictEntry), es[i]? = some e → ∃ k b, e.key = .ref b ∧ (tupleKind knd).is s.heap k b := fun i e hi => by
    rw [entry_at he i] at hi
    obtain ⟨x, hx, rfl⟩ := Option.map_eq_some_iff.mp hi
    exact ⟨x.1, x.2.1, rfl, his x (List.mem_of_getElem? hx)⟩
  have heq : ∀ {e : DictEntry} {Q : Bool → Shared → Prop}, (∃ k b, e.key = .ref b ∧ (tupleKind knd).is s.heap k b) → Q false s → wpAny (model prog w) A (eqBool e.key (.str z t)) Q E s := fun {e} {Q} ⟨k, b, hk, hb⟩ q => by
    rw [hk]
    obtain ⟨ob, items, n, h1, h2, h3, _⟩ := hb
    exact (SeqAt.EqAt.tuple_str z t ⟨ob, h1, h2, n, h3⟩ hu) prog w E Q q
  unfold dictFind
  try with_reducible refine wpAny_holding ?_
  refine wpAny_bind (wpAny_dictEntries ho hd ?_)
  dsimp only
  by_cases hall : (es.all fun e => isExactStrKey e.key) = true
  · -- no entry
    rw [if_pos hall]
    have hnil : xs = [] := by
      cases xs with
      | nil => rfl
      | cons x xs =>
        have h0 : es[0]? = some (entryOfKey (tupleKind knd) x) := by rw [entry_at he 0]; rfl
        obtain ⟨k, b, hk, _⟩ := hent 0 _ h0
        rw [← Array.all_toList, List.all_eq_true] at hall
        have := hall (entryOfKey (tupleKind knd) x) (Array.mem_toList_iff.mpr (Array.mem_of_getElem? h0))
        rw [hk] at this
        exact Bool.noConfusion (show false = true from this)
    subst hnil
    have hes : es = #[] := by
      apply Array.toList_inj.mp
      rw [he]
      rfl
    subst hes
    have e : foundByValue d (.str z t) #[] z = pure none := by
      unfold foundByValue
      rw [show Array.findIdx? (fun x : DictEntry => x.key.isStr z) #[] = none by simp]
    rw [e]
    exact wpAny_pure h
  · rw [if_neg hall]
    by_cases hpl : ((Value.str z t :: (placesWithHash es.size (fun i => es[i]?.map (·.hash)) hh).filterMap (fun i => es[i]?.map (·.key))).all carriedByValue) = true
    · rw [if_pos hpl]
      unfold dictWalkPlain
      refine wpAny_bind ?_
      refine wpAny_forIn_list _ (fun rest r s' => s' = s ∧ r = (none, ())) _ ?_ ?_ _ _ ⟨rfl, rfl⟩
      · rintro x rest r s' ⟨rfl, rfl⟩
        cases hx : es[x]? with
        | none => exact wpAny_pure ⟨rfl, rfl⟩
        | some e =>
          dsimp only
          split
          · refine wpAny_bind (wpAny_dictEpoch ho hd (wpAny_bind (heq (hent x e hx) (wpAny_bind (wpAny_dictEpoch ho hd ?_)))))
            rw [if_neg (by simp)]
            first | refine wpAny_bind (wpAny_pure ?_) | skip
            rw [if_neg (by decide)]
            exact wpAny_bind (wpAny_rule (wpAny_pure ⟨rfl, rfl⟩))
          · exact wpAny_pure ⟨rfl, rfl⟩
      · rintro r s' ⟨rfl, rfl⟩
        exact wpAny_pure h
    · rw [if_neg hpl]
      have hst : ∀ v ∈ (placesWithHash es.size (fun i => es[i]?.map (·.hash)) hh).filterMap (fun i => es[i]?.map (·.key)), ∃ k' b, v = .ref b ∧ (tupleKind knd).is s.heap k' b := by
        intro v hv
        obtain ⟨i, _, hi⟩ := List.mem_filterMap.mp hv
        obtain ⟨e, h1, rfl⟩ := Option.map_eq_some_iff.mp hi
        obtain ⟨k, b, h2, h3⟩ := hent i e h1
        exact ⟨k, b, h2, h3⟩
      have hne : ¬ (((placesWithHash es.size (fun i => es[i]?.map (·.hash)) hh).filterMap (fun i => es[i]?.map (·.key))) == [Value.str z t]) = true := fun q => by
        have q' := eq_of_beq q
        obtain ⟨_, b, q2, _⟩ := hst (.str z t) (by rw [q']; exact List.mem_cons_self)
        exact nomatch q2
      rw [if_neg hne]
      refine wpAny_bind (tell_text hst ?_)
      rw [if_neg (by simp)]
      refine wpAny_bind ?_
      refine wpAny_forIn_list _ (fun rest r s' => s' = s ∧ r = (none, none)) _ ?_ ?_ _ _ ⟨rfl, rfl⟩
      · rintro x rest r s' ⟨rfl, rfl⟩
        cases hx : es[x]? with
        | none => exact wpAny_pure ⟨rfl, rfl⟩
        | some e =>
          dsimp only
          split
          · refine wpAny_bind (wpAny_dictEpoch ho hd (wpAny_bind (heq (hent x e hx) (wpAny_bind (wpAny_dictEpoch ho hd ?_)))))
            rw [if_neg (by simp)]
            first | refine wpAny_bind (wpAny_pure ?_) | skip
            rw [if_neg (by decide)]
            refine wpAny_bind (wpAny_rule ?_)
            first | rw [if_neg (by simp)] | skip
            first | exact wpAny_pure ⟨rfl, rfl⟩ | exact wpAny_bind (wpAny_pure (wpAny_pure ⟨rfl, rfl⟩))
          · exact wpAny_pure ⟨rfl, rfl⟩
      · rintro r s' ⟨rfl, rfl⟩
        exact wpAny_pure h
theorem set_text {d : Addr} {xs : List (List K × Addr × Value)} {z : Str} {t : Tok} {v : Value} {Q : Unit → Shared → Prop} (hu : A.units < cLine) (hm : s.heap.DictOfH (tupleKind knd) d xs) (hsz : xs.length ≤ sizeLine)
    (h : ∀ h' t', (∃ q, h'.get? d = some q) → Heap.SameBut d s.heap h' → Q () { s with heap := h', toks := t' }) : wpAny (model prog w) A (dictSet d (.str z t) v) Q E s := by
  obtain ⟨o, es, ep, ho, hc, hd, he, his, hn⟩ := hm
  unfold dictSet
  try with_reducible refine wpAny_holding ?_
  refine wpAny_bind (wpAny_pyHash_str ?_)
  unfold dictSetHashed
  try with_reducible refine wpAny_holding ?_
  refine wpAny_bind (find_text (s := { s with toks := s.toks + 1 }) hu ho hd he his ?_)
  exact wpAny_bind (wpAny_rule (wpAny_updateDictKeys (hz := by have e := size_of_entries he; omega) (s := { s with toks := s.toks + 1 }) ho hd (h _ _ ⟨_, Heap.get?_update_self _ ho (Obj.isFreed_of_dict (Obj.data_mapDictKeys hd _))⟩ (Heap.SameBut.update ..))))
theorem setItem_text {d : Addr} {xs : List (List K × Addr × Value)} {z : Str} {t : Tok} {v : Value} {Q : Unit → Shared → Prop} (hu : A.units + 1 < cLine) (hm : s.heap.DictOfH (tupleKind knd) d xs) (hsz : xs.length ≤ sizeLine)
    (h : ∀ h' t', (∃ q, h'.get? d = some q) → Heap.SameBut d s.heap h' → Q () { s with heap := h', toks := t' }) : wpAny (model prog w) A (setItem (.ref d) (.str z t) v) Q E s := by
  unfold setItem
  try with_reducible refine wpAny_holding ?_
  refine wpAny_bind (wpAny_sequenceKey hm.typeIs (by decide) ?_)
  refine wpAny_bind (wpAny_callSpecial?_slot (name := Str.ofString "__setitem__") hm.typeIs PySem.F.slot_dict_setitem
    (wpAny_call_entry PySem.F.slot_dict_setitem hm.typeIs PySem.F.entry_dict_setitem ?_ (PySem.F.args_dict_setitem_3 _ _ _)))
  show wpAny _ _ (Builtin.Dict.notOrdered "__setitem__" ⟨[.ref d, .str z t, v], []⟩ >>= _) _ _ s
  refine wpAny_bind (wpAny_notOrdered_dict hm.typeIs ?_)
  show wpAny _ _ (dictSet d (.str z t) v >>= _) _ _ s
  exact wpAny_bind (set_text (show A.units + 1 < cLine from hu) hm hsz fun h' t' q sb => wpAny_pure ⟨.none, rfl, wpAny_pure (h h' t' q sb)⟩)
end
end PySem.W
namespace DL
open PySem PySem.Spec PyProof.Rows L2 My
/-- something stands at the address; what, is forgotten -/
def gone : HO := .ext fun _ => True
section
variable {X : Cx}
/-- d["x"] = v of a dict with tuple keys: its content is forgotten -/
def rForget : TSet := fun o i v H Q => ∃ a z kvs, o = .ref a ∧ i = .str z ∧ H a = some (.dT kvs) ∧ Q (upd H a gone)
theorem set_forget (hu : X.A.units + 2 < cLine) : PSet X rForget := by
  intro pins s σ H o i v ov iv u Q I ro ri rv h
  obtain ⟨a, z, kvs, rfl, rfl, ha, q⟩ := h
  cases (show ov = Value.ref a from ro)
  obtain ⟨t, rfl⟩ := (show ∃ t, iv = Value.str z t from ri)
  obtain ⟨hz, _, xs, rel, dd⟩ := dt_of I.hok ha
  refine PySem.W.setItem_text (by omega) dd (by rw [← Paired.length rel]; exact hz) fun h' t' ⟨ob, he⟩ sb => ⟨_, d_write (ob := gone) I (by rw [ha]; exact True.intro) sb ⟨ob, he⟩ (show True ∧ (∃ o, h'.get? a = some o) ∧ ∀ h1 h2 : Heap, True → (∀ o, h1.get? a = some o → h2.get? a = some o) → True from ⟨True.intro, ⟨ob, he⟩, fun _ _ _ _ => True.intro⟩), q⟩
end
end DL
/-! part DL41 -/
/-! t[a:b], [..] * n, != of lists with dicts, slots seen as data and back -/
namespace DL
open PySem PySem.Spec PyProof.Rows L2 My
open Classical in
/-- a != b of two lists of the same data -/
noncomputable def gNeS : Dt → Dt → Option Dt
  | .lst ds, e => if e = .lst ds ∧ ∀ d ∈ ds, d.alike then some (.bl false) else none
  | _, _ => none
theorem gNeS_same {ds : List Dt} (h : ∀ d ∈ ds, d.alike) : gNeS (.lst ds) (.lst ds) = some (.bl false) := if_pos ⟨rfl, h⟩
theorem o_neS {K : PySem.W.Frag} : Op2 K (rNeS K) gNeS := fun P x y d e c H Q nP hx hy h q => by
  cases d with
  | lst ds =>
    by_cases z : e = .lst ds ∧ ∀ d ∈ ds, d.alike
    · have h' : some (Dt.bl false) = some c := by rw [← h]; exact (if_pos z).symm
      cases h'
      obtain ⟨rfl, z2⟩ := z
      exact ⟨ds, hx.same hidP_less, hy.same hidP_less, z2, q H _ (Same.refl H) (.bl _)⟩
    · have h' : none = some c := by rw [← h]; exact (if_neg z).symm
      cases h'
  | _ => exact nomatch (show none = some c from h)
/-- [..] * n -/
def gRep : Dt → Dt → Option Dt
  | .lst ds, .int k => if 0 ≤ k ∧ k ≤ 1000 ∧ ds.length ≤ 1000 then some (.lst (List.replicate k.toNat ds).flatten) else none
  | _, _ => none
theorem dxs_rep {K : PySem.W.Frag} {H : Hp} {vs : List V} {ds : List Dt} (x : DXs K H vs ds) : ∀ n : Nat, DXs K H (List.replicate n vs).flatten (List.replicate n ds).flatten
  | 0 => .nil
  | n + 1 => by
    rw [List.replicate_succ, List.replicate_succ, List.flatten_cons, List.flatten_cons]
    exact x.append (dxs_rep x n)
theorem rep_len {α : Type} (l : List α) : ∀ n : Nat, (List.replicate n l).flatten.length = n * l.length
  | 0 => by simp
  | n + 1 => by rw [List.replicate_succ, List.flatten_cons, List.length_append, rep_len l n, Nat.succ_mul]; omega
theorem o_rep {K : PySem.W.Frag} : Op2 K rRep gRep := fun P x y d e c H Q nP hx hy h q => by
  cases d with
  | lst ds =>
    cases e with
    | int k =>
      have h : (if 0 ≤ k ∧ k ≤ 1000 ∧ ds.length ≤ 1000 then some (Dt.lst (List.replicate k.toNat ds).flatten) else none) = some c := h
      by_cases z : 0 ≤ k ∧ k ≤ 1000 ∧ ds.length ≤ 1000
      · rw [if_pos z] at h
        cases h
        obtain rfl := hy.intI
        obtain ⟨a, vs, rfl, g1, g2, g3⟩ := hx.lstI
        have lv : vs.length ≤ 1000 := by rw [g3.len]; exact z.2.2
        have kn : k.toNat ≤ 1000 := by omega
        have bd : k.toNat * vs.length ≤ 1000 * 1000 := Nat.mul_le_mul kn lv
        refine ⟨a, k, vs, rfl, rfl, (hidP_some g1).2.1, by omega, by omega, by rw [Nat.mul_comm]; exact Nat.le_trans bd (by decide), fun p np => ?_⟩
        have s2 := same_new np (.lst (List.replicate k.toNat vs).flatten)
        have sh : Same (hidP P H) (hidP P (upd H p (.lst (List.replicate k.toNat vs).flatten))) := hidP_same fun b o e _ n => ⟨n, s2 b o e⟩
        exact q _ _ s2 (.lst (hidP_mk (nP p np) upd_same fun ps z => nomatch z) (by rw [rep_len]; exact bd) ((dxs_rep g3 _).same sh))
      · rw [if_neg z] at h
        cases h
    | _ => cases h
  | _ => cases h
/-- t[a:b], a tuple -/
def gCut (a b : Nat) : Dt → Option Dt
  | .tup ds => if 1 ≤ a ∧ a ≤ b ∧ b ≤ ds.length then some (.tup ((ds.drop a).take (b - a))) else none
  | _ => none
theorem gCut_some {a b : Nat} {d c : Dt} (h : gCut a b d = some c) : ∃ ds, d = .tup ds ∧ 1 ≤ a ∧ a ≤ b ∧ b ≤ ds.length ∧ c = .tup ((ds.drop a).take (b - a)) := by
  unfold gCut at h
  split at h
  · rename_i ds
    by_cases l : 1 ≤ a ∧ a ≤ b ∧ b ≤ ds.length
    · rw [if_pos l] at h
      exact ⟨ds, rfl, l.1, l.2.1, l.2.2, (Option.some.inj h).symm⟩
    · rw [if_neg l] at h
      cases h
  · cases h
theorem cut_mid (xs : List V) (a b : Nat) (ab : a ≤ b) (h : b ≤ xs.length) : cutV xs (some (a : Int)) (some (b : Int)) = (xs.drop a).take (b - a) := by
  unfold cutV
  have e1 : HT.sIx xs.length 0 (some (a : Int)) = a := by
    simp only [HT.sIx]
    split <;> omega
  have e2 : HT.sIx xs.length xs.length (some (b : Int)) = b := by
    simp only [HT.sIx]
    split <;> omega
  rw [e1, e2]
section
variable {S : Type} {X : Cx} {K : PySem.W.Frag} {A : Am S} {e lo hi : Expr} {pos p2 : Pos} {w : WE S} {a b : Nat}
theorem d_cut (he : PE X e (tE K A w)) (hn : PE X lo (tC (.int (a : Int)))) (hm : PE X hi (tC (.int (b : Int)))) (hK : X.K = K := by rfl) : PE X (.Subscript e (.Slice (some lo) (some hi) none p2) pos) (tE K A (wO1 (gCut a b) w)) := by
  subst hK
  refine PE.imp (pe_slice sl_tup he (po_some hn) (po_some hm)) fun σ H Q ⟨F, H0, O, τ, st, q⟩ => bindE st q fun H1 v O1 d τ1 s1 k1 x1 q1 => ?_
  obtain ⟨c, hc, q2⟩ := some_of q1
  obtain ⟨ds, rfl, h1, h2, h3, rfl⟩ := gCut_some hc
  obtain ⟨r0, vs, rfl, g1, g2, g3⟩ := x1.tupI
  have lv : b ≤ vs.length := by rw [g3.len]; exact h3
  refine ⟨(a : Int), rfl, (b : Int), rfl, r0, vs, rfl, hidT g1, ?_, fun r nr => ?_⟩
  · rintro ⟨z, _⟩
    have e1 : HT.sIx vs.length 0 (some (a : Int)) = a := by
      simp only [HT.sIx]
      split <;> omega
    rw [e1] at z
    omega
  · rw [cut_mid vs a b h2 lv]
    have s2 := same_new nr (.tup ((vs.drop a).take (b - a)))
    have sh : Same (hidP (hidn F O1 τ1.1) H1) (hidP (hidn F O1 τ1.1) (upd H1 r (.tup ((vs.drop a).take (b - a))))) := hidP_same fun b o e _ n => ⟨n, s2 b o e⟩
    exact q2 _ _ O1 (s1.grow s2) (k1.trans sh) (.tup (hidP_mk (s1.fresh nr) upd_same fun ps z => nomatch z) (by rw [List.length_take, List.length_drop]; omega) (((g3.drop a).take (b - a)).same sh))
end
/-- slots, each of them data or not known -/
inductive SlX (K : PySem.W.Frag) (H : Hp) : List (Option V) → En → Prop
  | nil : SlX K H [] []
  | no {o : Option V} {σ : List (Option V)} {ρ : En} : SlX K H σ ρ → SlX K H (o :: σ) (.no :: ρ)
  | dat {v : V} {d : Dt} {σ : List (Option V)} {ρ : En} : DX K H v d → SlX K H σ ρ → SlX K H (some v :: σ) (.dat d :: ρ)
theorem SlX.len {K : PySem.W.Frag} {H : Hp} {σ : List (Option V)} {ρ : En} (x : SlX K H σ ρ) : ρ.length = σ.length := by
  induction x with
  | nil => rfl
  | no _ ih => rw [List.length_cons, List.length_cons, ih]
  | dat _ _ ih => rw [List.length_cons, List.length_cons, ih]
theorem SlX.own {K : PySem.W.Frag} {H : Hp} {σ : List (Option V)} {ρ : En} (x : SlX K H σ ρ) : ∀ (i : Nat) (c : Cn), ρ[i]? ≠ some (.own c) := by
  induction x with
  | nil => exact fun i c h => nomatch h
  | no _ ih =>
    intro i c h
    cases i with
    | zero => exact nomatch (Option.some.inj h)
    | succ i => exact ih i c h
  | dat _ _ ih =>
    intro i c h
    cases i with
    | zero => exact nomatch (Option.some.inj h)
    | succ i => exact ih i c h
theorem SlX.at_ {K : PySem.W.Frag} {H : Hp} {σ : List (Option V)} {ρ : En} (x : SlX K H σ ρ) : ∀ (i : Nat) (d : Dt), ρ[i]? = some (.dat d) → ∃ v, σ[i]? = some (some v) ∧ DX K H v d := by
  induction x with
  | nil => exact fun i d h => nomatch h
  | no _ ih =>
    intro i d h
    cases i with
    | zero => exact nomatch (Option.some.inj h)
    | succ i => exact ih i d h
  | @dat v d' _ _ hx _ ih =>
    intro i d h
    cases i with
    | zero =>
      obtain rfl : d' = d := by injection (Option.some.inj h)
      exact ⟨v, rfl, hx⟩
    | succ i => exact ih i d h
theorem SlX.same {K : PySem.W.Frag} {H H' : Hp} (s : Same H H') {σ : List (Option V)} {ρ : En} (x : SlX K H σ ρ) : SlX K H' σ ρ := by
  induction x with
  | nil => exact .nil
  | no _ ih => exact .no ih
  | dat h _ ih => exact .dat (h.same s) ih
theorem SlX.mk {K : PySem.W.Frag} {H : Hp} : ∀ {ρ : En} {σ : List (Option V)}, ρ.length = σ.length → (∀ (i : Nat) (d : Dt), ρ[i]? = some (.dat d) → ∃ v, σ[i]? = some (some v) ∧ DX K H v d) → (∀ (i : Nat) (c : Cn), ρ[i]? ≠ some (.own c)) → SlX K H σ ρ
  | [], [], _, _, _ => .nil
  | [], _ :: _, l, _, _ => nomatch l
  | _ :: _, [], l, _, _ => nomatch l
  | .no :: ρ, o :: σ, l, h, n => .no (SlX.mk (Nat.succ.inj l) (fun i d e => h (i + 1) d e) fun i c e => n (i + 1) c e)
  | .own c :: ρ, o :: σ, l, h, n => absurd rfl (n 0 c)
  | .dat d :: ρ, o :: σ, l, h, n => by
    obtain ⟨v, e, x⟩ := h 0 d rfl
    obtain rfl : o = some v := Option.some.inj e
    exact .dat x (SlX.mk (Nat.succ.inj l) (fun i d e => h (i + 1) d e) fun i c e => n (i + 1) c e)
theorem SlX.stt {K : PySem.W.Frag} {F : Addr → Prop} {H : Hp} {σ : List (Option V)} {ρ : En} (x : SlX K (hidP F H) σ ρ) (fex : ∀ a, F a → ∃ o, H a = some o ∧ Hd o) : Stt K Am.none F H (fun _ => 0) σ H (ρ, ()) := by
  have e : ∀ b, hidn F (fun _ => 0) ρ b ↔ F b := fun b => ⟨fun h => h.elim id fun ⟨i, c, e, _⟩ => absurd e (x.own i c), .inl⟩
  refine ⟨trivial, ⟨(), fun _ => True, trivial⟩, fun a f => f.elim, fex, fun b o z _ _ => z, fun i d h => ?_, fun i c h => absurd h (x.own i c), fun i j c d h => absurd h (x.own i c), x.len⟩
  obtain ⟨v, h1, h2⟩ := x.at_ i d h
  exact ⟨v, h1, h2.same (hidP_same fun b o z _ n => ⟨fun y => n ((e b).mp y), z⟩)⟩
theorem SlX.back {K : PySem.W.Frag} {F : Addr → Prop} {H0 H : Hp} {O : Nat → Addr} {σ : List (Option V)} {ρ : En} (st : Stt K Am.none F H0 O σ H (ρ, ())) (no : ∀ (i : Nat) (c : Cn), ρ[i]? ≠ some (.own c)) : SlX K (hidP F H) σ ρ :=
  SlX.mk st.len (fun i d h => let ⟨v, h1, h2⟩ := st.dat i d h; ⟨v, h1, h2.same hidn_F⟩) no
theorem Stt.gr {K : PySem.W.Frag} {F : Addr → Prop} {H0 H : Hp} {O : Nat → Addr} {σ : L2.St} {τ : En × Unit} (st : Stt K Am.none F H0 O σ H τ) : Same H0 H := fun b o e => st.ev b o e (fun h => h) (fun h => h)
end DL
/-! part K41z1 -/
namespace Kx
open PySem PySem.Spec PyProof.Rows L2 My DL LamX NdefX
def spLawT (K : PySem.W.Frag) (Tb : List (Addr × Str)) : Sp := fun vs H Q _ => ∃ (a : Addr) (ns : List Int), vs = [.ref a] ∧ SqL K H a (ns.map V.int) ∧ ns.length ≤ 63 ∧ (AmT Tb).at_ () (fun _ => False) H ∧ ∀ H', Q (.bl true) H'
theorem bag_hid {H : Hp} {b : Addr} (h : IsBag H b) : IsBag (hidP (fun _ => False) H) b := by
  obtain ⟨l, ns, h1, h2, h3⟩ := h
  exact ⟨l, ns, hidP_mk id h1 (fun ps z => nomatch z), h2, hidP_mk id h3 (fun ps z => nomatch z)⟩
abbrev F0 : Addr → Prop := fun _ => False
def noOwn : En → Bool
  | [] => true
  | .own _ :: _ => false
  | .no :: ρ => noOwn ρ
  | .dat _ :: ρ => noOwn ρ
theorem noOwn.no : ∀ {ρ : En}, noOwn ρ = true → ∀ (i : Nat) (c : Cn), ρ[i]? ≠ some (.own c)
  | [], _, i, c, e => nomatch e
  | .own _ :: _, h, _, _, _ => nomatch h
  | .no :: ρ, h, 0, c, e => nomatch (Option.some.inj e)
  | .dat _ :: ρ, h, 0, c, e => nomatch (Option.some.inj e)
  | .no :: ρ, h, i + 1, c, e => noOwn.no (ρ := ρ) h i c e
  | .dat _ :: ρ, h, i + 1, c, e => noOwn.no (ρ := ρ) h i c e
/-- slots behind a statement over data -/
theorem SlX.of {K : PySem.W.Frag} {F : Addr → Prop} {H0 H : Hp} {O : Nat → Addr} {σ : List (Option V)} {τ : En × Unit} (st : Stt K Am.none F H0 O σ H τ) (no : noOwn τ.1 = true) : SlX K (hidP F H) σ τ.1 :=
  SlX.back (ρ := τ.1) st (noOwn.no no)
theorem _root_.DL.SlX.noI {K : PySem.W.Frag} {H : Hp} {σ : List (Option V)} {ρ : En} (x : SlX K H σ (.no :: ρ)) : ∃ o σ', σ = o :: σ' ∧ SlX K H σ' ρ := by
  cases x with
  | no x => exact ⟨_, _, rfl, x⟩
theorem _root_.DL.SlX.datI {K : PySem.W.Frag} {H : Hp} {σ : List (Option V)} {d : Dt} {ρ : En} (x : SlX K H σ (.dat d :: ρ)) : ∃ v σ', σ = some v :: σ' ∧ DX K H v d ∧ SlX K H σ' ρ := by
  cases x with
  | dat h x => exact ⟨_, _, rfl, h, x⟩
theorem _root_.DL.SlX.nilI {K : PySem.W.Frag} {H : Hp} {σ : List (Option V)} (x : SlX K H σ []) : σ = [] := by
  cases x
  rfl
abbrev wB1 : WT Unit := wTst (wO2 gEq (wCall (A := Am.none) (Lens.none Am.none) wfDraw (wCons (wVar 1) (wCons (wC (Dt.int 3)) wNil))) (wC (Dt.int 0)))
abbrev wB2 : WS Unit := wSet 3 (wTup (wCons (wC (Dt.str "let")) (wCons (wO2 gIx (wVar 3) (wC (Dt.int 1))) (wCons (wTup (wCons (wC (Dt.str "-")) (wCons (wTup (wCons (wC (Dt.str "use")) (wCons (wTup (wCons (wVar 4) (wCons (wO2 (gI fun i j => Dt.int (i + j)) (wVar 5) (wC (Dt.int 1))) wNil))) wNil))) (wCons (wO2 gIx (wVar 3) (wC (Dt.int 2))) wNil)))) wNil))))
abbrev wBent : WS Unit := wIfS (wAndT (wTst (wO2 gEq (wO2 gIx (wVar 3) (wC (Dt.int 0))) (wC (Dt.str "let")))) wB1) wB2 wNx
theorem bent_key {τ : En × Unit} {z : Str} {rest : List Dt} {k : Rs → En × Unit → Prop} (e : τ.1[3]? = some (.dat (.tup (.str z :: rest))))
    (q : if z = ("let" : Str) then wB1.f τ (fun b τ1 => if b = true then wB2.f τ1 k else (wNx : WS Unit).f τ1 k) else (wNx : WS Unit).f τ k) : wBent.f τ k := by
  refine wVar_run (k := fun d τ1 => optK (gIx d (.int 0)) fun c => optK (gEq c (.str "let")) fun c => match c with
    | .bl b1 => if b1 = true then wB1.f τ1 (fun b τ2 => if b = true then wB2.f τ2 k else (wNx : WS Unit).f τ2 k) else (if false = true then wB2.f τ1 k else (wNx : WS Unit).f τ1 k)
    | _ => False) e ?_
  show optK (gIx (.tup (.str z :: rest)) (.int 0)) _
  rw [ix_head]
  show if decide (z = ("let" : Str)) = true then _ else _
  by_cases h : z = ("let" : Str)
  · rw [if_pos h] at q
    rw [if_pos (decide_eq_true h)]
    exact q
  · rw [if_neg h] at q
    rw [if_neg (by rw [decide_eq_false h]; exact Bool.false_ne_true), if_neg Bool.false_ne_true]
    exact q
theorem bent_no {τ : En × Unit} {z : Str} {rest : List Dt} {k : Rs → En × Unit → Prop} (e : τ.1[3]? = some (.dat (.tup (.str z :: rest)))) (h : ¬ z = ("let" : Str)) (q : k .nx τ) : wBent.f τ k :=
  bent_key e (by rw [if_neg h]; exact q)
theorem bent_run {row : Rw} (dr : SkD row) (be : row.bend) {o : Str} {f : Int} (f0 : 0 ≤ f) (f1 : f < 50) {r : En} {k : Rs → En × Unit → Prop}
    (q : ∀ row', SkD row' → k .nx ([.no, .dat .bag, .no, .dat row'.skd, .dat (.str o), .dat (.int f)] ++ r, ())) : wBent.f ([.no, .dat .bag, .no, .dat row.skd, .dat (.str o), .dat (.int f)] ++ r, ()) k := by
  cases dr with
  | @let_ nm t dt =>
    refine bent_key rfl ?_
    rw [if_pos rfl]
    refine ⟨3, rfl, by decide, by decide, fun d d0 d1 => iteB (fun _ => ?_) (fun _ => q _ (.let_ dt))⟩
    have r3 : SkD (.let_ (.str nm) (.op "-" (.leaf (.tup [.str "use", idt (o, f + 1)])) t)) := .let_ (.op (by decide +kernel) (.use (o, f + 1)) be)
    refine ⟨Nat.le_of_ble_eq_true rfl, ?_⟩
    refine ⟨Nat.le_of_ble_eq_true rfl, ?_⟩
    refine ⟨Nat.le_of_ble_eq_true rfl, ?_⟩
    refine ⟨Nat.le_of_ble_eq_true rfl, ?_⟩
    exact q _ r3
  | set_ dt => exact bent_no rfl (by decide +kernel) (q _ (.set_ dt))
  | do_ hd he => exact bent_no rfl (by decide +kernel) (q _ (.do_ hd he))
  | def_ hle => exact bent_no rfl (by decide +kernel) (q _ (.def_ hle))
  | read_ => exact bent_no rfl (by decide +kernel) (q _ .read_)
  | out_ dt => exact bent_no rfl (by decide +kernel) (q _ (.out_ dt))
  | if_ dt => exact bent_no rfl (by decide +kernel) (q _ (.if_ dt))
  | rep_ dt => exact bent_no rfl (by decide +kernel) (q _ (.rep_ dt))
  | blk_ => exact bent_no rfl (by decide +kernel) (q _ .blk_)
noncomputable abbrev wDicts : WT Unit :=
  (wOrT
    (wTst (wO2 gNeD (wLc (wItT (wTup (wCons (wC (Dt.int 1)) (wCons (wC (Dt.int 2)) (wCons (wC (Dt.int 3)) wNil))))) (wgName 8) wYes (wIsi "dict" (wO2 gIx (wVar 7) (wVar 8))) (List.map (fun x => x.2) [(("_law_k" : Str), 8)]))
      (wO2 gRep (wNewL (wLenA (wCons (wC (Dt.bl true)) wNil))) (wC (Dt.int 3)))))
    (wTst (wO2 gNeS (wON gListOf (wCons (wO1 (gCut 1 4) (wVar 7)) wNil)) (wON gListOf (wCons (wO1 (gCut 1 4) (wVar 6)) wNil)))))
theorem ne3 : gNeD (.lst [.bl true, .bl true, .bl true]) (.lst [.bl true, .bl true, .bl true]) = some (.bl false) := rfl
theorem cut3 (c d u t n : Dt) : gCut 1 4 (.tup [c, d, u, t, n]) = some (.tup [d, u, t]) := rfl
theorem dicts_run {a3 a4 a5 c n : Dt} {d u t : Dc} (al : ∀ x ∈ [Dt.dct d, .dct u, .dct t], x.alike) {r8 : List Sl} {k : Bool → En × Unit → Prop}
    (q : k false (.no :: .dat .bag :: .no :: .dat a3 :: .dat a4 :: .dat a5 :: .dat (.tup [c, .dct d, .dct u, .dct t, n]) :: .dat (.tup [c, .dct d, .dct u, .dct t, n]) :: .no :: r8, ())) :
    wDicts.f (.no :: .dat .bag :: .no :: .dat a3 :: .dat a4 :: .dat a5 :: .dat (.tup [c, .dct d, .dct u, .dct t, n]) :: .dat (.tup [c, .dct d, .dct u, .dct t, n]) :: .no :: r8, ()) k := by
  refine ⟨Nat.le_of_ble_eq_true rfl, by decide, by decide, by decide, by decide, Nat.le_of_ble_eq_true rfl, ?_⟩
  show optK (gNeS (.lst [.dct d, .dct u, .dct t]) (.lst [.dct d, .dct u, .dct t])) _
  rw [gNeS_same al]
  exact q
end Kx
/-! part K41z2 -/
namespace Kx
open PySem PySem.Spec PyProof.Rows L2 My DL LamX NdefX
/-- the thing of a pair (word, thing) with this word -/
def pickW (w : Str) : Dt → List Dt
  | .tup [.str u, x] => if u = w then [x] else []
  | _ => []
theorem leaves_pick {w : Str} (h1 : ¬ ("use" : Str) = w) (h2 : ¬ ("number" : Str) = w) : ∀ {m : Nat} {t : Tr}, Du m t → t.leaves.flatMap (pickW w) = []
  | _, _, .leaf (u := u) hu => by
    show (if u = w then _ else []) ++ [] = []
    have hu' : u = "use" ∨ u = "number" := by
      simp only [List.contains_cons, Bool.or_eq_true, beq_iff_eq] at hu
      rcases hu with e | e | e
      · exact .inl e
      · exact .inr e
      · exact nomatch e
    rcases hu' with rfl | rfl
    · rw [if_neg h1]; rfl
    · rw [if_neg h2]; rfl
  | _, _, .op _ hl hr => by
    show (_ ++ _ : List Dt).flatMap (pickW w) = []
    rw [List.flatMap_append, leaves_pick h1 h2 hl, leaves_pick h1 h2 hr]
    rfl
theorem leavesL_pick {w : Str} (h1 : ¬ ("use" : Str) = w) (h2 : ¬ ("number" : Str) = w) : ∀ {es : List Tr}, (∀ e ∈ es, Du 4 e) → (es.flatMap Tr.leaves).flatMap (pickW w) = []
  | [], _ => rfl
  | e :: es, h => by
    rw [List.flatMap_cons, List.flatMap_append, leaves_pick h1 h2 (h e List.mem_cons_self), leavesL_pick h1 h2 fun x hx => h x (List.mem_cons_of_mem _ hx)]
    rfl
theorem pk_dd (p : Id') : pickW "declaration" (declD p) = [idt p] := by
  show (if ("declaration" : Str) = "declaration" then [idt p] else []) = _
  exact if_pos rfl
theorem pk_db (p : Id') : pickW "block" (declD p) = [] := by
  show (if ("declaration" : Str) = "block" then [idt p] else []) = _
  exact if_neg (by decide +kernel)
theorem pk_ud (p : Id') : pickW "declaration" (useD p) = [] := by
  show (if ("use" : Str) = "declaration" then [idt p] else []) = _
  exact if_neg (by decide +kernel)
theorem pk_ub (p : Id') : pickW "block" (useD p) = [] := by
  show (if ("use" : Str) = "block" then [idt p] else []) = _
  exact if_neg (by decide +kernel)
theorem pk_bd (p : Id') : pickW "declaration" (blkD p) = [] := by
  show (if ("block" : Str) = "declaration" then [idt p] else []) = _
  exact if_neg (by decide +kernel)
theorem pk_bb (p : Id') : pickW "block" (blkD p) = [idt p] := by
  show (if ("block" : Str) = "block" then [idt p] else []) = _
  exact if_pos rfl
theorem decl_pick : ∀ ps : List Id', (ps.map declD).flatMap (pickW "declaration") = ps.map idt
  | [] => rfl
  | p :: ps => by rw [List.map_cons, List.flatMap_cons, decl_pick ps, pk_dd]; rfl
theorem decl_pickB : ∀ ps : List Id', (ps.map declD).flatMap (pickW "block") = []
  | [] => rfl
  | p :: ps => by rw [List.map_cons, List.flatMap_cons, decl_pickB ps, pk_db]; rfl
theorem things_blocks {c : Ct} (f : c.fine) : c.things.flatMap (pickW "block") = c.blocks.map idt := by
  have n1 : ¬ ("use" : Str) = "block" := by decide +kernel
  have n2 : ¬ ("number" : Str) = "block" := by decide +kernel
  cases c with
  | let_ i e => rw [Ct.things, List.flatMap_cons, pk_db, leaves_pick n1 n2 (f.1 e List.mem_cons_self)]; rfl
  | set_ i e => rw [Ct.things, List.flatMap_cons, pk_ub, leaves_pick n1 n2 (f.1 e List.mem_cons_self)]; rfl
  | read_ i => rw [Ct.things, List.flatMap_cons, pk_ub]; rfl
  | out_ e => rw [Ct.things, leaves_pick n1 n2 (f.1 e List.mem_cons_self)]; rfl
  | do_ i es => rw [Ct.things, List.flatMap_cons, pk_ub, leavesL_pick (es := es) n1 n2 f.1]; rfl
  | def_ i ps b => rw [Ct.things, List.flatMap_cons, List.flatMap_cons, pk_db, pk_bb, decl_pickB]; rfl
  | if_ e b c => rw [Ct.things, List.flatMap_append, leaves_pick n1 n2 (f.1 e List.mem_cons_self), List.flatMap_cons, List.flatMap_cons, pk_bb, pk_bb]; rfl
  | rep_ e b => rw [Ct.things, List.flatMap_append, leaves_pick n1 n2 (f.1 e List.mem_cons_self), List.flatMap_cons, pk_bb]; rfl
  | blk_ b => rw [Ct.things, List.flatMap_cons, pk_bb]; rfl
theorem things_decls {c : Ct} (f : c.fine) : c.things.flatMap (pickW "declaration") = c.decls.map idt := by
  have n1 : ¬ ("use" : Str) = "declaration" := by decide +kernel
  have n2 : ¬ ("number" : Str) = "declaration" := by decide +kernel
  cases c with
  | let_ i e => rw [Ct.things, List.flatMap_cons, pk_dd, leaves_pick n1 n2 (f.1 e List.mem_cons_self)]; rfl
  | set_ i e => rw [Ct.things, List.flatMap_cons, pk_ud, leaves_pick n1 n2 (f.1 e List.mem_cons_self)]; rfl
  | read_ i => rw [Ct.things, List.flatMap_cons, pk_ud]; rfl
  | out_ e => rw [Ct.things, leaves_pick n1 n2 (f.1 e List.mem_cons_self)]; rfl
  | do_ i es => rw [Ct.things, List.flatMap_cons, pk_ud, leavesL_pick (es := es) n1 n2 f.1]; rfl
  | def_ i ps b => rw [Ct.things, List.flatMap_cons, List.flatMap_cons, pk_dd, pk_bd, decl_pick]; rfl
  | if_ e b c => rw [Ct.things, List.flatMap_append, leaves_pick n1 n2 (f.1 e List.mem_cons_self), List.flatMap_cons, List.flatMap_cons, pk_bd, pk_bd]; rfl
  | rep_ e b => rw [Ct.things, List.flatMap_append, leaves_pick n1 n2 (f.1 e List.mem_cons_self), List.flatMap_cons, pk_bd]; rfl
  | blk_ b => rw [Ct.things, List.flatMap_cons, pk_bd]; rfl
end Kx
/-! part K41z3 -/
namespace Kx
open PySem PySem.Spec PyProof.Rows L2 My DL LamX NdefX
theorem leaf_like : ∀ {m : Nat} {t : Tr}, Du m t → ∀ d ∈ t.leaves, LikeD 2 d
  | _, _, .leaf (u := u) (x := x) (n := n) hu, d, hd => by
    have hd : d ∈ [Dt.tup [.str u, .tup [.str x, .int n]]] := hd
    rw [List.mem_singleton.mp hd]
    exact .tup (Nat.le_of_ble_eq_true rfl) (like_cons (.str _) (like_cons (.tup (Nat.le_of_ble_eq_true rfl) (like_cons (.str _) (like_cons (.int _) like_nil))) like_nil))
  | _, _, .op _ hl hr, d, hd => by
    rcases List.mem_append.mp hd with h | h
    · exact leaf_like hl d h
    · exact leaf_like hr d h
theorem pair_like (z : Str) (i : Id') : LikeD 2 (.tup [.str z, idt i]) := .tup (Nat.le_of_ble_eq_true rfl) (like_cons (.str _) (like_cons (like_id i) like_nil))
theorem things_like {c : Ct} (f : c.fine) : ∀ d ∈ c.things, LikeD 2 d := by
  intro d hd
  have lf : ∀ e ∈ c.exprs, ∀ d ∈ e.leaves, LikeD 2 d := fun e he => leaf_like (f.1 e he)
  cases c with
  | let_ i e =>
    rcases List.mem_cons.mp hd with rfl | h
    · exact pair_like _ _
    · exact lf e List.mem_cons_self d h
  | set_ i e =>
    rcases List.mem_cons.mp hd with rfl | h
    · exact pair_like _ _
    · exact lf e List.mem_cons_self d h
  | read_ i =>
    rcases List.mem_cons.mp hd with rfl | h
    · exact pair_like _ _
    · exact nomatch h
  | out_ e => exact lf e List.mem_cons_self d hd
  | do_ i es =>
    rcases List.mem_cons.mp hd with rfl | h
    · exact pair_like _ _
    · obtain ⟨e, he, h⟩ := List.mem_flatMap.mp h
      exact lf e he d h
  | def_ i ps b =>
    rcases List.mem_cons.mp hd with rfl | h
    · exact pair_like _ _
    · rcases List.mem_cons.mp h with rfl | h
      · exact pair_like _ _
      · obtain ⟨e, he, rfl⟩ := List.mem_map.mp h
        exact pair_like _ _
  | if_ e b c =>
    rcases List.mem_append.mp hd with h | h
    · exact lf e List.mem_cons_self d h
    · rcases List.mem_cons.mp h with rfl | h
      · exact pair_like _ _
      · rcases List.mem_cons.mp h with rfl | h
        · exact pair_like _ _
        · exact nomatch h
  | rep_ e b =>
    rcases List.mem_append.mp hd with h | h
    · exact lf e List.mem_cons_self d h
    · rcases List.mem_cons.mp h with rfl | h
      · exact pair_like _ _
      · exact nomatch h
  | blk_ b =>
    rcases List.mem_cons.mp hd with rfl | h
    · exact pair_like _ _
    · exact nomatch h
end Kx
/-! part K41z4 -/
namespace Kx
open PySem PySem.Spec PyProof.Rows L2 My DL LamX NdefX
theorem putT_all {P : Dt → Prop} {ps : Dc} {k : List Key} {d : Dt} (h : ∀ p ∈ ps, P p.2) (hd : P d) : ∀ p ∈ putT ps k d, P p.2 := by
  intro p hp
  unfold putT at hp
  split at hp
  · obtain ⟨q, hq, e⟩ := List.mem_map.mp hp
    by_cases z : q.1 = k
    · rw [if_pos z] at e
      rw [← e]
      exact hd
    · rw [if_neg z] at e
      rw [← e]
      exact h q hq
  · rcases List.mem_append.mp hp with hp | hp
    · exact h p hp
    · rw [List.mem_singleton.mp hp]
      exact hd
structure NS.al (n : NS) : Prop where
  d : ∀ p ∈ n.d, p.2.small
  u : ∀ p ∈ n.u, p.2.small
  t : ∀ p ∈ n.t, p.2.small
theorem NS.al.fresh {n : NS} (a : n.al) : n.fresh.al := ⟨a.d, a.u, a.t⟩
theorem NS.al.push {n : NS} (a : n.al) (l : List Dt) : (n.push l).al := ⟨a.d, a.u, a.t⟩
theorem NS.al.decl {n : NS} (a : n.al) {l : Dt} (h : l.small) : (n.decl l).al := ⟨putT_all (P := Dt.small) a.d h, a.u, a.t⟩
theorem NS.al.use {n : NS} (a : n.al) {l : Dt} (h : l.small) : (n.use l).al := ⟨a.d, putT_all (P := Dt.small) a.u h, a.t⟩
theorem NS.al.tell {n : NS} (a : n.al) {l : Dt} (h : l.small) : (n.tell l).al := ⟨a.d, a.u, putT_all (P := Dt.small) a.t h⟩
theorem small_id (i : Id') : (idt i).small := fun d h => by
  rcases List.mem_cons.mp h with rfl | h
  · rfl
  · rw [List.mem_singleton.mp h]
    rfl
theorem small_int (i : Int) : (Dt.int i).small := trivial
theorem small_str (z : Str) : (Dt.str z).small := trivial
theorem NS.al.expr : ∀ {m : Nat} {t : Tr}, Dr m t → ∀ {n : NS}, n.al → (n.expr t).2.al
  | _, _, .num i, n, a => a.tell (small_int i)
  | _, _, .use i, n, a => a.use (small_id i)
  | _, _, .op _ hl hr, n, a => NS.al.expr hr (NS.al.expr hl a)
theorem NS.al.exprL : ∀ {es : List Tr}, (∀ e ∈ es, Dr 2 e) → ∀ {n : NS}, n.al → (n.exprL es).2.al
  | [], _, n, a => a
  | e :: es, h, n, a => NS.al.exprL (es := es) (fun x hx => h x (List.mem_cons_of_mem _ hx)) (NS.al.expr (h e List.mem_cons_self) a)
theorem NS.al.declL : ∀ (ls : List Str) {n : NS}, n.al → (n.declL (ls.map Dt.str)).2.al
  | [], n, a => a
  | l :: ls, n, a => NS.al.declL ls (a.decl (small_str l))
theorem sk_al {o : Str} {b : Int} {row : Rw} (dr : SkD row) : (skP o b row).2.al := by
  have a0 : ((sk0 o b).fresh).al := ⟨(fun p h => nomatch h), (fun p h => nomatch h), (fun p h => nomatch h)⟩
  cases dr with
  | let_ dt => exact (a0.decl (small_str _)).expr dt
  | set_ dt => exact (a0.use (small_id _)).expr dt
  | do_ hd he => exact (a0.use (small_id _)).exprL hd
  | def_ hle => exact ((a0.decl (small_str _)).fresh.declL _).push _
  | read_ => exact a0.use (small_id _)
  | out_ dt => exact a0.expr dt
  | if_ dt => exact ((a0.expr dt).push _).fresh.push _
  | rep_ dt => exact (a0.expr dt).fresh.push _
  | blk_ => exact a0.fresh.push _
theorem sk_alike {o : Str} {b : Int} {row : Rw} (dr : SkD row) : ∀ d ∈ [Dt.dct (skP o b row).2.d, .dct (skP o b row).2.u, .dct (skP o b row).2.t], d.alike := by
  have a := sk_al (o := o) (b := b) dr
  intro d h
  rcases List.mem_cons.mp h with rfl | h
  · exact a.d
  · rcases List.mem_cons.mp h with rfl | h
    · exact a.u
    · rw [List.mem_singleton.mp h]
      exact a.t
end Kx
/-! part K41z5 -/
namespace Kx
open PySem PySem.Spec PyProof.Rows L2 My DL LamX NdefX
theorem leaf_pair : ∀ {m : Nat} {t : Tr}, Du m t → ∀ d ∈ t.leaves, ∃ u x, d = Dt.tup [.str u, x]
  | _, _, .leaf (u := u) (x := x) (n := n) hu, d, hd => by
    have hd : d ∈ [Dt.tup [.str u, .tup [.str x, .int n]]] := hd
    rw [List.mem_singleton.mp hd]
    exact ⟨_, _, rfl⟩
  | _, _, .op _ hl hr, d, hd => by
    rcases List.mem_append.mp hd with h | h
    · exact leaf_pair hl d h
    · exact leaf_pair hr d h
theorem things_pair {c : Ct} (f : c.fine) : ∀ d ∈ c.things, ∃ u x, d = Dt.tup [.str u, x] := by
  intro d hd
  have lf : ∀ e ∈ c.exprs, ∀ d ∈ e.leaves, ∃ u x, d = Dt.tup [.str u, x] := fun e he => leaf_pair (f.1 e he)
  cases c with
  | let_ i e =>
    rcases List.mem_cons.mp hd with rfl | h
    · exact ⟨_, _, rfl⟩
    · exact lf e List.mem_cons_self d h
  | set_ i e =>
    rcases List.mem_cons.mp hd with rfl | h
    · exact ⟨_, _, rfl⟩
    · exact lf e List.mem_cons_self d h
  | read_ i =>
    rcases List.mem_cons.mp hd with rfl | h
    · exact ⟨_, _, rfl⟩
    · exact nomatch h
  | out_ e => exact lf e List.mem_cons_self d hd
  | do_ i es =>
    rcases List.mem_cons.mp hd with rfl | h
    · exact ⟨_, _, rfl⟩
    · obtain ⟨e, he, h⟩ := List.mem_flatMap.mp h
      exact lf e he d h
  | def_ i ps b =>
    rcases List.mem_cons.mp hd with rfl | h
    · exact ⟨_, _, rfl⟩
    · rcases List.mem_cons.mp h with rfl | h
      · exact ⟨_, _, rfl⟩
      · obtain ⟨e, he, rfl⟩ := List.mem_map.mp h
        exact ⟨_, _, rfl⟩
  | if_ e b c =>
    rcases List.mem_append.mp hd with h | h
    · exact lf e List.mem_cons_self d h
    · rcases List.mem_cons.mp h with rfl | h
      · exact ⟨_, _, rfl⟩
      · rcases List.mem_cons.mp h with rfl | h
        · exact ⟨_, _, rfl⟩
        · exact nomatch h
  | rep_ e b =>
    rcases List.mem_append.mp hd with h | h
    · exact lf e List.mem_cons_self d h
    · rcases List.mem_cons.mp h with rfl | h
      · exact ⟨_, _, rfl⟩
      · exact nomatch h
  | blk_ b =>
    rcases List.mem_cons.mp hd with rfl | h
    · exact ⟨_, _, rfl⟩
    · exact nomatch h
theorem things_len {c : Ct} (f : c.fine) : c.things.length ≤ 200000 := by
  have lv := leaves_all c.exprs f.fit.1
  have l2 : c.exprs.length ≤ 100 := f.2.1
  have l3 : (c.exprs.flatMap Tr.leaves).length ≤ 100000 := by omega
  cases c with
  | let_ i e =>
    have h : ([e].flatMap Tr.leaves).length ≤ 100000 := l3
    simp at h
    show (declD i :: e.leaves).length ≤ _
    simp; omega
  | set_ i e =>
    have h : ([e].flatMap Tr.leaves).length ≤ 100000 := l3
    simp at h
    show (useD i :: e.leaves).length ≤ _
    simp; omega
  | read_ i => exact Nat.le_of_ble_eq_true rfl
  | out_ e =>
    have h : ([e].flatMap Tr.leaves).length ≤ 100000 := l3
    simp at h
    show e.leaves.length ≤ _
    omega
  | do_ i es =>
    have h : (es.flatMap Tr.leaves).length ≤ 100000 := l3
    show (useD i :: es.flatMap Tr.leaves).length ≤ _
    rw [List.length_cons]; omega
  | def_ i ps b =>
    have h : ps.length ≤ 1000 := f.2.2
    show (declD i :: blkD b :: ps.map declD).length ≤ _
    rw [List.length_cons, List.length_cons, List.length_map]; omega
  | if_ e b c =>
    have h : ([e].flatMap Tr.leaves).length ≤ 100000 := l3
    simp at h
    show (e.leaves ++ [blkD b, blkD c]).length ≤ _
    simp; omega
  | rep_ e b =>
    have h : ([e].flatMap Tr.leaves).length ≤ 100000 := l3
    simp at h
    show (e.leaves ++ [blkD b]).length ≤ _
    simp; omega
  | blk_ b => exact Nat.le_of_ble_eq_true rfl
theorem blocks_len (c : Ct) : c.blocks.length ≤ 2 := by
  cases c <;> exact Nat.le_of_ble_eq_true rfl
theorem decls_len {c : Ct} (f : c.fine) : c.decls.length ≤ 1001 := by
  cases c with
  | def_ i ps b =>
    have h : ps.length ≤ 1000 := f.2.2
    show (i :: ps).length ≤ _
    rw [List.length_cons]; omega
  | _ => exact Nat.le_of_ble_eq_true rfl
theorem lc_cons {S : Type} {wg : WG} {tt : WT S} {te : WE S} {ρ ρ1 : En} {d : Dt} {ds : List Dt} {s : S} {acc : List Dt} {k : List Dt → S → Prop} (l : acc.length < 1000000) (e : wg d ρ = some ρ1) (ht : ∀ k' : Bool → En × S → Prop, k' true (ρ1, s) → tt.f (ρ1, s) k')
    (h : te.f (ρ1, s) fun e τ3 => lcN wg tt te ρ ds τ3.2 (acc ++ [e]) k) : lcN wg tt te ρ (d :: ds) s acc k := by
  refine ⟨l, ?_⟩
  rw [e]
  refine ht _ ?_
  rw [if_pos rfl]
  exact h
abbrev told3 (c : Ct) : List Dt := [.lst c.things, .lst (c.blocks.map idt), .lst (c.decls.map idt)]
theorem told_like {c : Ct} (f : c.fine) : LikeD 12 (.lst (told3 c)) := by
  have idl : ∀ l : List Id', l.length ≤ 1000000 → LikeD 11 (.lst (l.map idt)) := fun l h => .lst (m := 10) (by rw [List.length_map]; exact h) fun d hd => by
    obtain ⟨i, _, rfl⟩ := List.mem_map.mp hd
    exact (like_id i).le (by decide)
  have t := things_len f
  have b := blocks_len c
  have d := decls_len f
  refine .lst (m := 11) (Nat.le_of_ble_eq_true rfl) (like_cons (.lst (m := 10) (by omega) fun d hd => (things_like f d hd).le (by decide)) (like_cons (idl _ (by omega)) (like_cons (idl _ (by omega)) like_nil)))
noncomputable abbrev wKinds : WE Unit :=
  wLc (wItT (wTup (wCons (wC (Dt.str "block")) (wCons (wC (Dt.str "declaration")) wNil)))) (wgName 13) wYes
    (wLc (wItL (wVar 9)) (wgTup (wgCons (wgName 11) (wgCons (wgName 12) wgNil))) (wTst (wO2 gEq (wVar 11) (wVar 13))) (wVar 12) (List.map (fun x => x.2) [(("_law_word" : Str), 11), (("_law_thing" : Str), 12)]))
    (List.map (fun x => x.2) [(("_law_kind" : Str), 13)])
noncomputable abbrev wTold : WT Unit :=
  wNotT (wTst (wCall (A := Am.none) (Lens.none Am.none) (wfLike 12) (wCons (wVar 10) (wCons (wO2 gCat (wNewL (wLenA (wCons (wVar 9) wNil))) wKinds) wNil))))
theorem told_run {c : Ct} (f : c.fine) {a3 a4 a5 a6 a7 : Dt} {k : Bool → En × Unit → Prop}
    (q : k false ([.no, .dat .bag, .no, .dat a3, .dat a4, .dat a5, .dat a6, .dat a7, .no, .dat (.lst c.things), .dat (.lst (told3 c)), .no, .no, .no, .no], ())) :
    wTold.f ([.no, .dat .bag, .no, .dat a3, .dat a4, .dat a5, .dat a6, .dat a7, .no, .dat (.lst c.things), .dat (.lst (told3 c)), .no, .no, .no, .no], ()) k := by
  have t := things_len f
  have inner : ∀ (w : Str) (κ : Dt → En × Unit → Prop), (∀ xs : List Dt, xs = c.things.flatMap (pickW w) → κ (.lst xs) ([.no, .dat .bag, .no, .dat a3, .dat a4, .dat a5, .dat a6, .dat a7, .no, .dat (.lst c.things), .dat (.lst (told3 c)), .no, .no, .dat (.str w), .no], ())) → ∀ (hl : (c.things.flatMap (pickW w)).length ≤ 1000000),
    (wLc (wItL (wVar 9)) (wgTup (wgCons (wgName 11) (wgCons (wgName 12) wgNil))) (wTst (wO2 gEq (wVar 11) (wVar 13))) (wVar 12) (List.map (fun x => x.2) [(("_law_word" : Str), 11), (("_law_thing" : Str), 12)]) : WE Unit).f ([.no, .dat .bag, .no, .dat a3, .dat a4, .dat a5, .dat a6, .dat a7, .no, .dat (.lst c.things), .dat (.lst (told3 c)), .no, .no, .dat (.str w), .no], ()) κ := by
    intro w κ h hl
    refine lc_run (pickW w) c.things () [] _ (fun d hd => ?_) (by simp; omega) ⟨?_, h _ (List.nil_append _)⟩
    · obtain ⟨u, x, rfl⟩ := things_pair f d hd
      refine ⟨_, rfl, ?_⟩
      by_cases e : u = w
      · refine .inr ⟨x, by show (if u = w then [x] else []) = _; rw [if_pos e], fun k' hk => ?_, fun k' hk => hk⟩
        show k' (decide (u = w)) _
        rw [decide_eq_true e]
        exact hk
      · refine .inl ⟨by show (if u = w then [x] else []) = _; rw [if_neg e], fun k' hk => ?_⟩
        show k' (decide (u = w)) _
        rw [decide_eq_false e]
        exact hk
    · rw [List.nil_append]; exact hl
  refine ⟨Nat.le_of_ble_eq_true rfl, ?_⟩
  have e1 := things_blocks f
  have e2 := things_decls f
  have b := blocks_len c
  have d := decls_len f
  refine ⟨Nat.le_of_ble_eq_true rfl, lc_cons (by decide) rfl (fun k' h => h) (inner "block" _ (fun xs hx => ?_) (by rw [e1, List.length_map]; omega))⟩
  refine lc_cons (acc := [Dt.lst xs]) (Nat.le_of_ble_eq_true rfl) rfl (fun k' h => h) (inner "declaration" _ (fun ys hy => ?_) (by rw [e2, List.length_map]; omega))
  rw [e1] at hx
  rw [e2] at hy
  subst hx hy
  refine ⟨Nat.le_of_ble_eq_true rfl, ?_⟩
  refine ⟨.lst (told3 c), rfl, told_like f, q⟩
end Kx
/-! part K41z6 -/
namespace Kx
open PySem PySem.Spec PyProof.Rows L2 My DL LamX NdefX
noncomputable abbrev wAg1 : WT Unit := wTst (wO2 gNeS (wON gListOf (wCons (wO1 (gCut 1 4) (wVar 14)) wNil)) (wON gListOf (wCons (wO1 (gCut 1 4) (wVar 6)) wNil)))
noncomputable abbrev wAg2 : WT Unit := wNotT (wTst (wCall (A := Am.none) (Lens.none Am.none) (wfLike 12) (wCons (wCall (A := Am.none) (Lens.none Am.none) (wfCf fun c => Rs.rl (Cn.lst c.things)) (wCons (wO2 gIx (wVar 14) (wC (Dt.int 0))) wNil)) (wCons (wVar 9) wNil))))
abbrev agS (a3 a4 a5 c n : Dt) (dd u t : Dc) (cc : Ct) : En := [.no, .dat .bag, .no, .dat a3, .dat a4, .dat a5, .dat (.tup [c, .dct dd, .dct u, .dct t, n]), .no, .no, .dat (.lst cc.things), .no, .no, .no, .no, .dat (.tup [c, .dct dd, .dct u, .dct t, n])]
theorem again_run {a3 a4 a5 c n : Dt} {dd u t : Dc} {cc : Ct} (f : cc.fine) (ec : c = cc.dt) (al : ∀ x ∈ [Dt.dct dd, .dct u, .dct t], x.alike) {k : Bool → En × Unit → Prop} (q : k false (agS a3 a4 a5 c n dd u t cc, ())) :
    (wOrT wAg1 wAg2).f (agS a3 a4 a5 c n dd u t cc, ()) k := by
  subst ec
  show optK (gNeS (.lst [.dct dd, .dct u, .dct t]) (.lst [.dct dd, .dct u, .dct t])) _
  rw [gNeS_same al]
  show wAg2.f (agS a3 a4 a5 cc.dt n dd u t cc, ()) k
  refine ⟨cc, rfl, f.fit, ?_⟩
  have l := things_len f
  exact ⟨.lst cc.things, rfl, .lst (m := 11) (by omega) (fun x hx => (things_like f x hx).le (by decide)), q⟩
end Kx
/-! part K41z -/
namespace Kx
open PySem PySem.Spec PyProof.Rows L2 My DL LamX NdefX
section
variable {P : Program} {w : World} {K : PySem.W.Frag} {mg : Str → Option Value} {base : Heap} (T : Tx K mg) (SD : Ts K w mg) (Tb : List (Addr × Str)) (TN : TbN K mg base T)
include SD in
set_option maxHeartbeats 8000000 in
theorem ok_law (hT : HasTab (AmT Tb) TN.P qlamN) : FnOk P w K mg base CX0 14 T.f_law T.d_law ["_law_script"] (spLawT K Tb) := by
  have G__law_begin := ok_begin (P := P) (w := w) (base := base) T
  have G__law_draw := dd_draw (P := P) (w := w) (base := base) T
  have G__law_pick := ok_pick (P := P) (w := w) (base := base) T
  have G__law_any_sketch := ok_any_sketch (P := P) (w := w) (base := base) T
  have G__law_sketch := ok_sketch_w (P := P) (w := w) (base := base) T
  have G_sketched := ok_sketched (P := P) (w := w) (base := base) T SD Tb TN hT
  have G__law_like := ok_like (P := P) (w := w) (base := base) T 12
  have G__law_things := ok_things (P := P) (w := w) (base := base) T
  have G_things_of := ok_things_of (P := P) (w := w) (base := base) T SD
  have G_blocks_of := ok_blocks_of (P := P) (w := w) (base := base) T
  have G_declared_by := ok_declared_by (P := P) (w := w) (base := base) T
  refine T.F_law.ok sc_law (fun vs H Q E h => ?_) (fun cdv A outer s H vs Q E hr h => ?_)
  · obtain ⟨a, ns, rfl, _⟩ := h
    rfl
  obtain ⟨a, ns, rfl, hS, h63, at0, q⟩ := h
  have hu80 : ∀ {k : Nat} {A : Around}, Room k A → A.units + 80 < cLine := fun hr => by have := hr.un; omega
  have hu2 : ∀ {k : Nat} {A : Around}, Room k A → A.units + 2 < cLine := fun hr => Nat.lt_of_le_of_lt (Nat.add_le_add_left (by decide : 2 ≤ 64) _) hr.units
  refine ⟨_, (pss_cons (ps_set (i := 1) sc_law.nd rfl (Or.inl rfl) (pe_call G__law_begin (hr.mono (by decide)) (by rfl) T.g__law_begin T.F__law_begin.kp T.b__law_begin .nil pass0 (pa_cons (pv 0) pa_nil)))
  (pss_cons (ps_for PassesOwn.never rfl (pi_range1 (by rfl) T.z_range (pa_cons pe_int pa_nil)) (pg_name (i := 2) sc_law.nd rfl (Or.inl rfl))
    (pss_cons (s_par3 (i := 3) (j := 4) (l := 5) rfl sc_law.nd rfl rfl rfl (by decide) (by decide) (by decide) rfl rfl rfl (a_cons (d_call (Lens.none Am.none) G__law_any_sketch (hr.mono (by decide)) (by rfl) T.g__law_any_sketch T.F__law_any_sketch.kp T.b__law_any_sketch (a_cons (d_var (pv 1)) a_nil) rfl (la_cons la_nil)) (a_cons (d_call (Lens.none Am.none) G__law_pick (hr.mono (by decide)) (by rfl) T.g__law_pick T.F__law_pick.kp T.b__law_pick (a_cons (d_var (pv 1)) (a_cons (d_new (n_lst (a_cons (d_str pe_str) (a_cons (d_str pe_str) (a_cons (d_str pe_str) a_nil))))) a_nil)) rfl (la_cons (la_cons la_nil))) (a_cons (d_call (Lens.none Am.none) G__law_draw (hr.mono (by decide)) (by rfl) T.g__law_draw T.F__law_draw.kp T.b__law_draw (a_cons (d_var (pv 1)) (a_cons (d_int pe_int) a_nil)) rfl (la_cons (la_cons la_nil))) a_nil))) (by rfl))
    (pss_cons (s_if (PW.pt (tw_and (t_cmp op_eq o_eq (d_ix ix_seq o_ix (d_var (pv 3)) (d_int pe_int) (fun _ _ => rfl)) (d_str pe_str) rfl) (tw_and1 (t_cmp op_eq o_eq (d_call (Lens.none Am.none) G__law_draw (hr.mono (by decide)) (by rfl) T.g__law_draw T.F__law_draw.kp T.b__law_draw (a_cons (d_var (pv 1)) (a_cons (d_int pe_int) a_nil)) rfl (la_cons (la_cons la_nil))) (d_int pe_int) rfl)))) (s_one (s_set (i := 3) sc_law.nd rfl (Or.inl rfl) (d_tup (a_cons (d_str pe_str) (a_cons (d_ix ix_seq o_ix (d_var (pv 3)) (d_int pe_int) (fun _ _ => rfl)) (a_cons (d_tup (a_cons (d_str pe_str) (a_cons (d_tup (a_cons (d_str pe_str) (a_cons (d_tup (a_cons (d_var (pv 4)) (a_cons (d_bin op_add o_add (d_var (pv 5)) (d_int pe_int)) a_nil))) a_nil))) (a_cons (d_ix ix_seq o_ix (d_var (pv 3)) (d_int pe_int) (fun _ _ => rfl)) a_nil)))) a_nil)))))) s_nil)
    (pss_cons (s_set (i := 6) sc_law.nd rfl (Or.inl rfl) (d_call (Lens.none Am.none) G__law_sketch (hr.mono (by decide)) (by rfl) T.g__law_sketch T.F__law_sketch.kp T.b__law_sketch (a_cons (d_var (pv 3)) (a_cons (d_var (pv 4)) (a_cons (d_var (pv 5)) a_nil))) rfl (la_cons (la_cons (la_cons la_nil)))))
    (pss_cons (ps_set (i := 7) sc_law.nd rfl (Or.inr rfl) (pe_callN G_sketched (hr.mono (by decide)) (by rfl) T.g_sketched T.F_sketched.kp (kbn_of T.F_sketched 1 [0, 1] (ks := ["person", "start"]) (fun _ _ _ _ _ _ us ws h1 h2 => by
      match us, ws, h1, h2 with
      | [u1], [w1, w2], _, _ => rfl)) pass0 (pa_cons (pv 3) pa_nil) (pk_cons (pv 4) (pk_cons (pv 5) pk_nil))))
    (pss_cons (ps_if (PW.pt (tw_or (A := Am.none) (t_not (t_val (d_call (Lens.none Am.none) G__law_like (hr.mono (by decide)) (by rfl) T.g__law_like T.F__law_like.kp T.b__law_like (a_cons (d_new (n_lst (a_cons (d_ix ix_seq o_ix (d_var (pv 7)) (d_int pe_int) (fun _ _ => rfl)) (a_cons (d_ix ix_seq o_ix (d_var (pv 7)) (d_int pe_int) (fun _ _ => rfl)) (a_cons (d_callB call_len_seq o_len (by rfl) T.z_len (by decide +kernel) (a_cons (d_var (pv 7)) a_nil)) a_nil))))) (a_cons (d_new (n_lst (a_cons (d_ix ix_seq o_ix (d_var (pv 6)) (d_int pe_int) (fun _ _ => rfl)) (a_cons (d_ix ix_seq o_ix (d_var (pv 6)) (d_int pe_int) (fun _ _ => rfl)) (a_cons (d_int pe_int) a_nil))))) a_nil)) rfl (la_cons (la_cons la_nil))))) (tw_or1 (t_not (t_val (d_isi (d_var (pv 7)) (by rfl) T.z_isinstance (pe_bltn (v := .ty "tuple") (by rfl) T.z_tuple (by decide +kernel) rfl))))))) (pss_one (ps_ret pe_bl)) pss_nil)
    (pss_cons (ps_if (PW.pt (tw_or (A := Am.none) (t_cmp (op_neD hr.units) o_neD (d_lc (own := [("_law_k", 8)]) rfl sc_law.nd (i_tup (d_tup (a_cons (d_int pe_int) (a_cons (d_int pe_int) (a_cons (d_int pe_int) a_nil))))) (blkOk_by (N := N_law) (sc := defScope s_law) (by decide +kernel)) (fun _ _ _ _ _ => pg_name (i := 8) sc_law.nd rfl (Or.inl rfl)) g_name (gw_name (by decide)) (fun _ _ _ _ _ => ts_nil) (fun _ _ _ _ _ => (d_isi (d_ix ix_seq o_ix (d_var (pv 7)) (d_var (pv 8)) (fun _ _ => rfl)) (by rfl) T.z_isinstance (pe_bltn (v := .ty "dict") (by rfl) T.z_dict (by decide +kernel) rfl)))) (d_bin op_rep o_rep (d_new (n_lst (a_cons (d_bl pe_bl) a_nil))) (d_int pe_int)) rfl) (tw_or1 (t_cmp (op_neS (hu80 hr)) o_neS (d_callTy call_list_of o_listOf (by rfl) T.z_list (by decide +kernel) (a_cons (d_cut (a := 1) (b := 4) (d_var (pv 7)) pe_int pe_int) a_nil)) (d_callTy call_list_of o_listOf (by rfl) T.z_list (by decide +kernel) (a_cons (d_cut (a := 1) (b := 4) (d_var (pv 6)) pe_int pe_int) a_nil)) rfl)))) (pss_one (ps_ret pe_bl)) pss_nil)
    (pss_cons (s_set (i := 9) sc_law.nd rfl (Or.inr rfl) (d_call (Lens.none Am.none) G__law_things (hr.mono (by decide)) (by rfl) T.g__law_things T.F__law_things.kp T.b__law_things (a_cons (d_ix ix_seq o_ix (d_var (pv 6)) (d_int pe_int) (fun _ _ => rfl)) a_nil) rfl (la_cons la_nil)))
    (pss_cons (ps_set (i := 10) sc_law.nd rfl (Or.inl rfl) (pe_lst (pa_cons (pe_call G_things_of (hr.mono (by decide)) (by rfl) T.g_things_of T.F_things_of.kp T.b_things_of .nil pass0 (pa_cons (pe_ix (k_ix_tup K) (pv 6) pe_int (fun _ _ => rfl)) pa_nil)) (pa_cons (pe_call G_blocks_of (hr.mono (by decide)) (by rfl) T.g_blocks_of T.F_blocks_of.kp T.b_blocks_of .nil pass0 (pa_cons (pe_ix (k_ix_tup K) (pv 6) pe_int (fun _ _ => rfl)) pa_nil)) (pa_cons (pe_call G_declared_by (hr.mono (by decide)) (by rfl) T.g_declared_by T.F_declared_by.kp T.b_declared_by .nil pass0 (pa_cons (pe_ix (k_ix_tup K) (pv 6) pe_int (fun _ _ => rfl)) pa_nil)) pa_nil)))))
    (pss_cons (ps_if (t_not (t_val (d_call (Lens.none Am.none) G__law_like (hr.mono (by decide)) (by rfl) T.g__law_like T.F__law_like.kp T.b__law_like (a_cons (d_var (pv 10)) (a_cons (d_bin op_cat o_cat (d_new (n_lst (a_cons (d_var (pv 9)) a_nil))) (d_lc (own := [("_law_kind", 13)]) rfl sc_law.nd (i_tup (d_tup (a_cons (d_str pe_str) (a_cons (d_str pe_str) a_nil)))) (blkOk_by (N := N_law) (sc := defScope s_law) (by decide +kernel)) (fun _ _ _ _ _ => pg_name (i := 13) sc_law.nd rfl (Or.inr rfl)) g_name (gw_name (by decide)) (fun _ _ _ _ _ => ts_nil) (fun _ _ _ _ _ => (d_lc (own := [("_law_word", 11), ("_law_thing", 12)]) rfl sc_law.nd (i_list (d_var (pv 9))) (blkOk_by (N := N_law) (sc := { kind := .function, names := [(".0", .local), ("_law_kind", .cell), ("_law_things_here", .cell)], isGenerator := false, isCoroutine := false }) (scope := { kind := .function, names := [(".0", .local), ("_law_word", .local), ("_law_thing", .local), ("_law_kind", .free)], isGenerator := false, isCoroutine := false }) (own := [("_law_word", 11), ("_law_thing", 12)]) (by decide +kernel)) (fun _ _ _ _ _ => pg_tup rfl (pgs_cons (pg_name (i := 11) sc_law.nd rfl (Or.inl rfl)) (pgs_cons (pg_name (i := 12) sc_law.nd rfl (Or.inl rfl)) pgs_nil))) (g_tup (g_cons g_name (g_cons g_name g_nil)) (n_cons (n_cons n_nil))) (gw_tup (gw_cons (gw_name (by decide)) (gw_cons (gw_name (by decide)) gw_nil))) (fun _ _ _ _ _ => ts_one (t_cmp op_eq o_eq (d_var (pv 11)) (d_var (pv 13)) rfl)) (fun _ _ _ _ _ => (d_var (pv 12))))))) a_nil)) rfl (la_cons (la_cons la_nil))))) (pss_one (ps_ret pe_bl)) pss_nil)
    (pss_cons (ps_asg pe_str (pg_sub (pe_ix (k_ix_tup K) (pv 7) pe_int (fun _ _ => rfl)) pe_str (set_forget (hu2 hr))))
    (pss_cons (ps_expr (pe_bm PySem.F.plainAttrs_list PySem.F.slot_list_append PySem.F.type_list_append mt_append (pe_ix (k_ix_list K) (pv 10) pe_int (fun _ _ => rfl)) (pa_cons pe_non pa_nil)))
    (pss_cons (ps_set (i := 14) sc_law.nd rfl (Or.inl rfl) (pe_callK0 G_sketched (hr.mono (by decide)) (by rfl) T.g_sketched T.F_sketched.kp (kbn_of T.F_sketched 0 [2, 1, 0] (ks := ["start", "person", "sketch"]) (fun _ _ _ _ _ _ us ws h1 h2 => by
      match us, ws, h1, h2 with
      | [], [w1, w2, w3], _, _ => rfl)) pass0 (pk_cons (pv 5) (pk_cons (pv 4) (pk_cons (pv 3) pk_nil)))))
    (pss_one (ps_if (PW.pt (tw_or (A := Am.none) (t_cmp (op_neS (hu80 hr)) o_neS (d_callTy call_list_of o_listOf (by rfl) T.z_list (by decide +kernel) (a_cons (d_cut (a := 1) (b := 4) (d_var (pv 14)) pe_int pe_int) a_nil)) (d_callTy call_list_of o_listOf (by rfl) T.z_list (by decide +kernel) (a_cons (d_cut (a := 1) (b := 4) (d_var (pv 6)) pe_int pe_int) a_nil)) rfl) (tw_or1 (t_not (t_val (d_call (Lens.none Am.none) G__law_like (hr.mono (by decide)) (by rfl) T.g__law_like T.F__law_like.kp T.b__law_like (a_cons (d_call (Lens.none Am.none) G_things_of (hr.mono (by decide)) (by rfl) T.g_things_of T.F_things_of.kp T.b_things_of (a_cons (d_ix ix_seq o_ix (d_var (pv 14)) (d_int pe_int) (fun _ _ => rfl)) a_nil) rfl (la_cons la_nil)) (a_cons (d_var (pv 9)) a_nil)) rfl (la_cons (la_cons la_nil)))))))) (pss_one (ps_ret pe_bl)) pss_nil)))))))))))))))
  (pss_one (ps_ret pe_bl)))), ?_⟩
  refine ⟨_, rfl, a, ns, rfl, hS, h63, fun H1 b s1 nb hb => ?_⟩
  have at1 : (AmT Tb).at_ () F0 H1 := (AmT Tb).grow at0 s1
  refine ⟨10, rfl, by decide, by decide, ?_⟩
  refine for_range (lo := 0) (n := 10) (fun i σ H' => ∃ y0 b y2 y3 y4 y5 y6 y7 y8 y9 y10 y11 y12 y13 y14, σ = [y0, some (.ref b), y2, y3, y4, y5, y6, y7, y8, y9, y10, y11, y12, y13, y14] ∧ (AmT Tb).at_ () F0 H' ∧ IsBag H' b)
    ⟨_, b, _, _, _, _, _, _, _, _, _, _, _, _, _, rfl, at1, hb⟩ ?_ (fun σ H' _ => q H')
  rintro i σ H2 hi ⟨y0, b, y2, y3, y4, y5, y6, y7, y8, y9, y10, y11, y12, y13, y14, rfl, at2, hb2⟩
  have noF : ∀ (H : Hp) (a : Addr), F0 a → ∃ o, H a = some o ∧ Hd o := fun _ _ f => f.elim
  have x2 : SlX K (hidP F0 H2) [y0, some (.ref b), some (.int (0 + (i : Int))), y3, y4, y5, y6, y7, y8, y9, y10, y11, y12, y13, y14] [.no, .dat .bag, .no, .no, .no, .no, .no, .no, .no, .no, .no, .no, .no, .no, .no] :=
    .no (.dat (.sp (show IsBag (hidP F0 H2) b from bag_hid hb2)) (.no (.no (.no (.no (.no (.no (.no (.no (.no (.no (.no (.no (.no .nil))))))))))))))
  refine ⟨F0, H2, _, _, x2.stt (noF _), ?_⟩
  refine ⟨rfl, fun row dr be => ⟨Nat.le_of_ble_eq_true rfl, [.str "ann", .str "bob", .str "x"], rfl, by decide, by decide, fun e he => ⟨50, rfl, by decide, by decide, fun f f0 f1 => ?_⟩⟩⟩
  have eo : ∃ o, e = Dt.str o := by
    simp only [List.mem_cons, List.not_mem_nil, or_false] at he
    rcases he with rfl | rfl | rfl <;> exact ⟨_, rfl⟩
  obtain ⟨o, rfl⟩ := eo
  refine ⟨by show 3 < 15; decide, by show 4 < 15; decide, by show 5 < 15; decide, fun σ3 H3 O3 st3 kp3 => ?_⟩
  have x3 : SlX K (hidP F0 H3) σ3 ([.no, .dat .bag, .no, .dat row.skd, .dat (.str o), .dat (.int f)] ++ [.no, .no, .no, .no, .no, .no, .no, .no, .no]) := SlX.of st3 rfl
  have s23 : Same H2 H3 := st3.gr
  refine ⟨F0, H3, _, _, x3.stt (noF _), bent_run dr be f0 f1 fun row' dr' σ4 H4 O4 st4 kp4 => ?_⟩

  have x4 : SlX K (hidP F0 H4) σ4 [.no, .dat .bag, .no, .dat row'.skd, .dat (.str o), .dat (.int f), .no, .no, .no, .no, .no, .no, .no, .no, .no] := SlX.of st4 rfl
  have s34 : Same H3 H4 := st4.gr
  obtain ⟨b', rfl⟩ : ∃ b', f = b' + 1 := ⟨f - 1, by omega⟩
  refine ⟨F0, H4, _, _, x4.stt (noF _), ?_⟩
  refine ⟨row', o, b' + 1, rfl, dr', fun σ5 H5 O5 st5 kp5 => ?_⟩
  have x5 : SlX K (hidP F0 H5) σ5 [.no, .dat .bag, .no, .dat row'.skd, .dat (.str o), .dat (.int (b' + 1)), .dat (.tup [skC o b' row', .dct (skP o b' row').2.d, .dct (skP o b' row').2.u, .dct (skP o b' row').2.t, .int (skB o b' row')]), .no, .no, .no, .no, .no, .no, .no, .no] := by
    rw [← wsk_eq dr']
    exact SlX.of st5 rfl
  have s45 : Same H4 H5 := st5.gr
  have at5 : (AmT Tb).at_ () F0 H5 := (AmT Tb).grow at2 (s23.trans (s34.trans s45))
  have hb5 : IsBag H5 b := hb2.same (s23.trans (s34.trans s45))
  clear st4 kp4 x4 st5 kp5 x2
  obtain ⟨z0, _, rfl, q0⟩ := x5.noI
  obtain ⟨z1, _, rfl, xb5, q1⟩ := q0.datI
  obtain ⟨z2, _, rfl, q2⟩ := q1.noI
  obtain ⟨sv, _, rfl, xs5, q3⟩ := q2.datI
  obtain ⟨z4, _, rfl, xo5, q4⟩ := q3.datI
  obtain rfl := xo5.strI
  obtain ⟨z5, _, rfl, xf5, q5⟩ := q4.datI
  obtain rfl := xf5.intI
  obtain ⟨du, _, rfl, xd5, q6⟩ := q5.datI
  obtain ⟨z7, _, rfl, q7⟩ := q6.noI
  obtain ⟨z8, _, rfl, q8⟩ := q7.noI
  obtain ⟨z9, _, rfl, q9⟩ := q8.noI
  obtain ⟨z10, _, rfl, q10⟩ := q9.noI
  obtain ⟨z11, _, rfl, q11⟩ := q10.noI
  obtain ⟨z12, _, rfl, q12⟩ := q11.noI
  obtain ⟨z13, _, rfl, q13⟩ := q12.noI
  obtain ⟨z14, _, rfl, q14⟩ := q13.noI
  obtain rfl := q14.nilI
  refine ⟨_, rfl, _, rfl, _, rfl, rfl, rfl, F0, sv, o, b', row', rfl, at5, noF _, xs5, dr'.bare, dr'.okr, ?_⟩
  intro H6 r d1 d2 d3 cv k1 k2 k3 nr n1 n2 n3 er e1 e2 e3 xc xk1 xk2 xk3 at6 ev6
  have w56 : Same (hidP F0 H5) (hidP F0 H6) := hidP_same fun c u e n _ => ⟨id, ev6 c u e fun t => by
    obtain ⟨ps, e'⟩ := (AmT Tb).hasT () F0 H5 c at5 t
    rw [e] at e'
    exact n ps (Option.some.inj e')⟩
  have hid : ∀ {H : Hp} {c : Addr} {u : HO}, H c = some u → (∀ ps, u ≠ .tbl ps) → hidP F0 H c = some u := fun e n => hidP_mk id e n
  have xr : DX K (hidP F0 H6) (.ref r) (.tup [skC o b' row', .dct (skP o b' row').2.d, .dct (skP o b' row').2.u, .dct (skP o b' row').2.t, .int (skB o b' row')]) :=
    .tup (hid er fun ps z => nomatch z) (by show 5 ≤ 1000000; decide) (.cons xc (.cons (.dct (hid e1 fun ps z => nomatch z) xk1) (.cons (.dct (hid e2 fun ps z => nomatch z) xk2) (.cons (.dct (hid e3 fun ps z => nomatch z) xk3) (.cons (.int _) .nil)))))
  have x6 : SlX K (hidP F0 H6) [z0, some z1, z2, some sv, some (.str o), some (.int (b' + 1)), some du, some (.ref r), z8, z9, z10, z11, z12, z13, z14] [.no, .dat .bag, .no, .dat row'.skd, .dat (.str o), .dat (.int (b' + 1)), .dat (.tup [skC o b' row', .dct (skP o b' row').2.d, .dct (skP o b' row').2.u, .dct (skP o b' row').2.t, .int (skB o b' row')]), .dat (.tup [skC o b' row', .dct (skP o b' row').2.d, .dct (skP o b' row').2.u, .dct (skP o b' row').2.t, .int (skB o b' row')]), .no, .no, .no, .no, .no, .no, .no] :=
    .no (.dat (xb5.same w56) (.no (.dat (xs5.same w56) (.dat (.str o) (.dat (.int _) (.dat (xd5.same w56) (.dat xr (.no (.no (.no (.no (.no (.no (.no .nil))))))))))))))
  clear x5 q0 q1 q2 q3 q4 q5 q6 q7 q8 q9 q10 q11 q12 q13 
  obtain ⟨ct, ec, fc⟩ := sk_ct (o := o) (b := b') dr'
  have l8 : LikeD 8 (skC o b' row') := by rw [ec]; exact fine_like fc
  refine ⟨F0, H6, _, _, x6.stt (noF _), ?_⟩
  refine ⟨Nat.le_of_ble_eq_true rfl, Nat.le_of_ble_eq_true rfl, .lst [skC o b' row', .int (skB o b' row'), .int 5], rfl, ?_, ?_⟩
  · exact .lst (m := 11) (by show 3 ≤ 1000000; decide) (like_cons (l8.le (by decide)) (like_cons (.int _) (like_cons (.int _) like_nil)))
  intro H7 O7 st7 kp7
  have s67 : Same H6 H7 := st7.gr
  clear st7 kp7
  have w67 : Same (hidP F0 H6) (hidP F0 H7) := hidP_same fun c u e _ _ => ⟨id, s67 c u e⟩
  have al : ∀ d ∈ [Dt.dct (skP o b' row').2.d, .dct (skP o b' row').2.u, .dct (skP o b' row').2.t], d.alike := sk_alike dr'
  refine ⟨F0, H7, _, _, (x6.same w67).stt (noF _), dicts_run al fun H8 O8 st8 kp8 => ?_⟩
  have s78 : Same H7 H8 := st8.gr
  clear st8 kp8
  have e8 : H8 d1 = some (.dT k1) := s78 _ _ (s67 _ _ e1)
  let F1 : Addr → Prop := fun c => c = d1
  have fex8 : ∀ c, F1 c → ∃ u, H8 c = some u ∧ Hd u := by
    intro c z
    have z : c = d1 := z
    rw [z]
    exact ⟨_, e8, trivial⟩
  have w58 : Same (hidP F0 H5) (hidP F1 H8) := fun c u z => by
    obtain ⟨z1, z2, z3⟩ := hidP_some z
    refine hidP_mk (fun y => ?_) (s78 _ _ (s67 _ _ (hidP_some (w56 c u z)).2.1)) z3
    have y : c = d1 := y
    rw [y, n1] at z2
    cases z2
  have x8 : SlX K (hidP F1 H8) [z0, some z1, z2, some sv, some (.str o), some (.int (b' + 1)), some du, some (.ref r), z8, z9, z10, z11, z12, z13, z14] [.no, .dat .bag, .no, .dat row'.skd, .dat (.str o), .dat (.int (b' + 1)), .dat (.tup [skC o b' row', .dct (skP o b' row').2.d, .dct (skP o b' row').2.u, .dct (skP o b' row').2.t, .int (skB o b' row')]), .dat (.ptr r), .no, .no, .no, .no, .no, .no, .no] :=
    .no (.dat (xb5.same w58) (.no (.dat (xs5.same w58) (.dat (.str o) (.dat (.int _) (.dat (xd5.same w58) (.dat (.sp rfl) (.no (.no (.no (.no (.no (.no (.no .nil))))))))))))))
  refine ⟨F1, H8, _, _, x8.stt fex8, ?_⟩
  refine ⟨ct, by show [skC o b' row'] = _; rw [ec], fc, fun σ9 H9 O9 st9 kp9 => ?_⟩
  have s89 : Same H8 H9 := st9.gr
  have x9 : SlX K (hidP F1 H9) σ9 [.no, .dat .bag, .no, .dat row'.skd, .dat (.str o), .dat (.int (b' + 1)), .dat (.tup [skC o b' row', .dct (skP o b' row').2.d, .dct (skP o b' row').2.u, .dct (skP o b' row').2.t, .int (skB o b' row')]), .dat (.ptr r), .no, .dat (.lst ct.things), .no, .no, .no, .no, .no] := SlX.of st9 rfl
  clear st9 kp9
  obtain ⟨u0, _, rfl, p0⟩ := x9.noI
  obtain ⟨u1, _, rfl, xbag9, p1⟩ := p0.datI
  obtain ⟨u2, _, rfl, p2⟩ := p1.noI
  obtain ⟨u3, _, rfl, xsv9, p3⟩ := p2.datI
  obtain ⟨u4, _, rfl, xo9, p4⟩ := p3.datI
  obtain rfl := xo9.strI
  obtain ⟨u5, _, rfl, xf9, p5⟩ := p4.datI
  obtain rfl := xf9.intI
  obtain ⟨u6, _, rfl, xdue9, p6⟩ := p5.datI
  obtain ⟨u7, _, rfl, xptr9, p7⟩ := p6.datI
  obtain rfl := DX.ptrI xptr9
  obtain ⟨u8, _, rfl, p8⟩ := p7.noI
  obtain ⟨u9, _, rfl, xth9, p9⟩ := p8.datI
  obtain ⟨u10, _, rfl, p10⟩ := p9.noI
  obtain ⟨u11, _, rfl, p11⟩ := p10.noI
  obtain ⟨u12, _, rfl, p12⟩ := p11.noI
  obtain ⟨u13, _, rfl, p13⟩ := p12.noI
  obtain ⟨u14, _, rfl, p14⟩ := p13.noI
  obtain rfl := p14.nilI
  have e9 : H9 d1 = some (.dT k1) := s89 _ _ e8
  have fexN : ∀ {H' : Hp}, Same H9 H' → ∀ c, F1 c → ∃ u, H' c = some u ∧ Hd u := by
    intro H' m c z
    have z : c = d1 := z
    rw [z]
    exact ⟨_, m _ _ e9, trivial⟩
  obtain ⟨p, vs, rfl, hp, xp⟩ : ∃ p vs, u6 = V.ref p ∧ H9 p = some (.tup vs) ∧ DXs K (hidP F1 H9) vs [skC o b' row', .dct (skP o b' row').2.d, .dct (skP o b' row').2.u, .dct (skP o b' row').2.t, .int (skB o b' row')] := by
    cases xdue9 with
    | tup h _ k => exact ⟨_, _, rfl, (hidP_some h).2.1, k⟩
  obtain ⟨cv9, vs', rfl, c9, xp'⟩ : ∃ cv9 vs', vs = cv9 :: vs' ∧ DX K (hidP F1 H9) cv9 (skC o b' row') ∧ True := by
    cases xp with
    | cons h _ => exact ⟨_, _, rfl, h, trivial⟩
  have hpN : ∀ {H' : Hp}, Same H9 H' → SqT K H' p (cv9 :: vs') := fun m => .inl (.inl (m _ _ hp))
  have wN : ∀ {H' : Hp}, Same H9 H' → Same (hidP F1 H9) (hidP F1 H') := fun m => hidP_same fun c u e _ n => ⟨n, m c u e⟩
  refine ⟨_, rfl, p, _, 0, cv9, rfl, rfl, hpN (Same.refl _), by simp [atI, ixN], ?_⟩
  refine ⟨F1, (), [skC o b' row'], rfl, trivial, fun a f => f.elim, fexN (Same.refl _), .cons c9 .nil, ct, by show [skC o b' row'] = _; rw [ec], fc.fit, fun H10 t1 w1 _ ev10 nt1 et1 cx1 => ?_⟩
  have s910 : Same H9 H10 := fun c u e => ev10 c u e (fun z => z) (fun z => z)
  refine ⟨_, rfl, p, _, 0, cv9, rfl, rfl, hpN s910, by simp [atI, ixN], ?_⟩
  refine ⟨F1, (), [skC o b' row'], rfl, trivial, fun a f => f.elim, fexN s910, .cons (c9.same (wN s910)) .nil, ct, by show [skC o b' row'] = _; rw [ec], fun H11 t2 w2 _ ev11 nt2 et2 cx2 => ?_⟩
  have s911 : Same H9 H11 := s910.trans fun c u e => ev11 c u e (fun z => z) (fun z => z)
  refine ⟨_, rfl, p, _, 0, cv9, rfl, rfl, hpN s911, by simp [atI, ixN], ?_⟩
  refine ⟨F1, (), [skC o b' row'], rfl, trivial, fun a f => f.elim, fexN s911, .cons (c9.same (wN s911)) .nil, ct, by show [skC o b' row'] = _; rw [ec], fc.fit, fun H12 t3 w3 _ ev12 nt3 et3 cx3 => ?_⟩
  have s912 : Same H9 H12 := s911.trans fun c u e => ev12 c u e (fun z => z) (fun z => z)
  refine ⟨(by show 3 ≤ sizeLine; decide), fun L nL => ?_⟩
  generalize hX : upd _ L _ = H13
  obtain ⟨s1213, eL⟩ := new_at hX nL
  clear hX
  clear p0 p1 p2 p3 p4 p5 p6 p7 p8 p9 p10 p11 p12 p13 p14 x9 x8 x6 w67
  have s913 : Same H9 H13 := s912.trans s1213
  have nn : ∀ {H' : Hp} {c : Addr}, Same H9 H' → H' c = none → ¬ F1 c := fun m n z => by
    have z : _ = d1 := z
    rw [z, m _ _ e9] at n
    cases n
  have s1013 : Same H10 H13 := fun c u e => s1213 _ _ (ev12 c u (ev11 c u e (fun z => z) (fun z => z)) (fun z => z) (fun z => z))
  have s1113 : Same H11 H13 := fun c u e => s1213 _ _ (ev12 c u e (fun z => z) (fun z => z))
  have y1 : DX K (hidP F1 H13) (.ref t1) (.lst ct.things) := (cx1.same (hidP_same fun c u e _ n => ⟨fun z => n (.inl z), s1013 c u e⟩)).data (hidP_mk (nn (Same.refl _) nt1) (s1013 _ _ et1) cx1.hd.ntb)
  have y2 : DX K (hidP F1 H13) (.ref t2) (.lst (ct.blocks.map idt)) := (cx2.same (hidP_same fun c u e _ n => ⟨fun z => n (.inl z), s1113 c u e⟩)).data (hidP_mk (nn s910 nt2) (s1113 _ _ et2) cx2.hd.ntb)
  have y3 : DX K (hidP F1 H13) (.ref t3) (.lst (ct.decls.map idt)) := (cx3.same (hidP_same fun c u e _ n => ⟨fun z => n (.inl z), s1213 c u e⟩)).data (hidP_mk (nn s911 nt3) (s1213 _ _ et3) cx3.hd.ntb)
  have yL : DX K (hidP F1 H13) (.ref L) (.lst (told3 ct)) := .lst (hidP_mk (nn s912 nL) eL fun ps z => nomatch z) (Nat.le_of_ble_eq_true rfl) (.cons y1 (.cons y2 (.cons y3 .nil)))
  have w13 := wN s913
  have x13 : SlX K (hidP F1 H13) [u0, some u1, u2, some u3, some (.str o), some (.int (b' + 1)), some (.ref p), some (.ref r), u8, some u9, some (.ref L), u11, u12, u13, u14] [.no, .dat .bag, .no, .dat row'.skd, .dat (.str o), .dat (.int (b' + 1)), .dat (.tup [skC o b' row', .dct (skP o b' row').2.d, .dct (skP o b' row').2.u, .dct (skP o b' row').2.t, .int (skB o b' row')]), .dat (.ptr r), .no, .dat (.lst ct.things), .dat (.lst (told3 ct)), .no, .no, .no, .no] :=
    .no (.dat (xbag9.same w13) (.no (.dat (xsv9.same w13) (.dat (.str o) (.dat (.int _) (.dat (xdue9.same w13) (.dat (.sp rfl) (.no (.dat (xth9.same w13) (.dat yL (.no (.no (.no (.no .nil))))))))))))))
  refine ⟨F1, H13, _, _, x13.stt (fexN s913), told_run fc fun H14 O14 st14 kp14 => ?_⟩
  have s1314 : Same H13 H14 := st14.gr
  clear st14 kp14 x13 yL y1 y2 y3
  have s914 := s913.trans s1314
  have s614 : Same H6 H14 := s67.trans (s78.trans (s89.trans s914))
  have e14 : H14 d1 = some (.dT k1) := s914 _ _ e9
  refine ⟨_, rfl, r, _, 1, .ref d1, rfl, rfl, .inl (.inl (s614 _ _ er)), by simp [atI, ixN], d1, _, k1, rfl, rfl, e14, ?_⟩
  generalize hY : upd H14 d1 gone = H15
  have e15 : ∀ c, c ≠ d1 → H15 c = H14 c := fun c n => by rw [← hY, upd_ne n]
  clear hY
  obtain ⟨vs1, rfl, l1, cx1'⟩ := cx1.l
  have t1d : t1 ≠ d1 := fun z => nn (Same.refl _) nt1 z
  have Ld : L ≠ d1 := fun z => nn s912 nL z
  have et15 : H15 t1 = some (.lst vs1) := by rw [e15 _ t1d]; exact s1314 _ _ (s1013 _ _ et1)
  have eL15 : H15 L = some (.lst [.ref t1, .ref t2, .ref t3]) := by rw [e15 _ Ld]; exact s1314 _ _ eL
  refine ⟨_, rfl, L, _, 0, .ref t1, rfl, rfl, .inl (.inl eL15), by simp [atI, ixN], ?_⟩
  refine ⟨.inl ⟨rfl, vs1, .inl (.inl et15)⟩, t1, vs1, .non, rfl, rfl, et15, Nat.lt_of_le_of_lt l1 (by unfold sizeLine; decide), ?_⟩
  generalize hZ : upd H15 t1 _ = H16
  have e16 : ∀ c, c ≠ d1 → c ≠ t1 → H16 c = H14 c := fun c n m => by rw [← hZ, upd_ne m, e15 c n]
  clear hZ
  have k916 : ∀ c u, H9 c = some u → c ≠ d1 → H16 c = some u := fun c u e n => by
    rw [e16 c n fun z => by rw [z, nt1] at e; cases e]
    exact s914 _ _ e
  have w916 : Same (hidP F1 H9) (hidP F0 H16) := hidP_same fun c u e _ n => ⟨id, k916 c u e n⟩
  have at16 : (AmT Tb).at_ () F0 H16 := fun pq hp => by
    obtain ⟨_, ps, g1, g2, g3⟩ := at6 pq hp
    have keep : ∀ c u, H6 c = some u → ¬ Hd u → H16 c = some u := fun c u e n => k916 c u (s89 _ _ (s78 _ _ (s67 _ _ e))) fun z => by
      rw [z, e1] at e
      cases e
      exact n trivial
    refine ⟨id, ps, keep _ _ g1 id, g2, fun pos cv hc => ?_⟩
    obtain ⟨c, h1, h2, _⟩ := g3 pos cv hc
    exact ⟨c, h1, keep _ _ h2 id, id⟩
  refine ⟨_, rfl, _, rfl, _, rfl, rfl, rfl, F0, u3, o, b', row', rfl, at16, noF _, xsv9.same w916, dr'.bare, dr'.okr, ?_⟩
  intro H17 r2 g1 g2 g3 cv2 l1 l2 l3 nr2 m1 m2 m3 er2 eg1 eg2 eg3 xc2 xl1 xl2 xl3 at17 ev17
  have w1617 : Same (hidP F0 H16) (hidP F0 H17) := hidP_same fun c u e n _ => ⟨id, ev17 c u e fun t => by
    obtain ⟨ps, e'⟩ := (AmT Tb).hasT () F0 H16 c at16 t
    rw [e] at e'
    exact n ps (Option.some.inj e')⟩
  have w917 : Same (hidP F1 H9) (hidP F0 H17) := w916.trans w1617
  have xr2 : DX K (hidP F0 H17) (.ref r2) (.tup [skC o b' row', .dct (skP o b' row').2.d, .dct (skP o b' row').2.u, .dct (skP o b' row').2.t, .int (skB o b' row')]) :=
    .tup (hid er2 fun ps z => nomatch z) (by show 5 ≤ 1000000; decide) (.cons xc2 (.cons (.dct (hid eg1 fun ps z => nomatch z) xl1) (.cons (.dct (hid eg2 fun ps z => nomatch z) xl2) (.cons (.dct (hid eg3 fun ps z => nomatch z) xl3) (.cons (.int _) .nil)))))
  have x17 : SlX K (hidP F0 H17) [u0, some u1, u2, some u3, some (.str o), some (.int (b' + 1)), some (.ref p), some (.ref r), u8, some u9, some (.ref L), u11, u12, u13, some (.ref r2)] (agS row'.skd (.str o) (.int (b' + 1)) (skC o b' row') (.int (skB o b' row')) (skP o b' row').2.d (skP o b' row').2.u (skP o b' row').2.t ct) :=
    .no (.dat (xbag9.same w917) (.no (.dat (xsv9.same w917) (.dat (.str o) (.dat (.int _) (.dat (xdue9.same w917) (.no (.no (.dat (xth9.same w917) (.no (.no (.no (.no (.dat xr2 .nil))))))))))))))
  refine ⟨F0, H17, _, _, x17.stt (noF _), again_run fc ec al fun H18 O18 st18 kp18 => ?_⟩
  have s1718 : Same H17 H18 := st18.gr
  cases xbag9 with
  | @sp bb _ hbb =>
    exact ⟨_, bb, _, _, _, _, _, _, _, _, _, _, _, _, _, rfl, (AmT Tb).grow at17 s1718, ((IsBag.same (show IsBag (hidP F1 H9) bb from hbb) w917).same hidP_less).same s1718⟩
end
end Kx
/-! part EndX -/
/-! what an end by facts (He.hookX) leans on, beside the library's -/
namespace EndX
open PySem PySem.Spec PyProof.Rows L2 DL
theorem Fun_of {K : PySem.W.Frag} {x q : Str} {st : Stmt} {f : Addr} {fd : FuncData} (F : FunD K x q (defArgs st) (defBody st) (defScope st) [] [] f fd) : Fun K x q st f fd := by
  obtain ⟨⟨oc, od, dV, kV, doc, pm, an, cdv, ct, osl, e, l, c, d, k⟩, kp⟩ := F
  rcases d with ⟨_, rfl⟩ | ⟨n, _⟩
  · exact ⟨⟨oc, od, kV, doc, pm, an, cdv, ct, osl, e, l, c⟩, kp⟩
  · exact absurd rfl n
theorem dicW_es {K : PySem.W.Frag} {a : Addr} {r : List (Option (Str × Int))} (h : He.dicW K a = some r) : ∃ es n, K.lookup a = some ⟨.type "dict", none, .dict es n, #[]⟩ ∧ es.toList.map He.keyOf = r := by
  unfold He.dicW at h
  cases q : K.lookup a with
  | none =>
    rw [q] at h
    cases h
  | some o =>
    obtain ⟨oc, od, dt, osl⟩ := o
    rw [q] at h
    cases oc with
    | type c =>
      cases od with
      | none =>
        cases dt with
        | dict es n =>
          have h1 : (match decide (c = "dict") && (osl.isEmpty && !(a == sysModules)) with
            | true => some (es.toList.map He.keyOf)
            | false => none) = some r := h
          cases z : decide (c = "dict") && (osl.isEmpty && !(a == sysModules)) with
          | false =>
            rw [z] at h1
            cases h1
          | true =>
            rw [z] at h1
            obtain ⟨z1, z2⟩ := He.ba z
            obtain ⟨z3, z4⟩ := He.ba z2
            have e1 : c = "dict" := of_decide_eq_true z1
            have e2 : osl = #[] := Array.isEmpty_iff.mp z3
            subst e1 e2
            exact ⟨es, n, rfl, Option.some.inj h1⟩
        | _ => cases h
      | some b => cases dt <;> cases h
    | _ => cases od <;> cases dt <;> cases h
theorem find_keys {P : Params} : ∀ {l : List DictEntry} {ks : List Str}, l.map He.keyOf = He.keysIn P ks → ∀ z : Str, (l.find? (·.key.isStr z)).isSome = ks.contains z ∧ l.any (·.refKey) = false
  | [], [], _, z => ⟨rfl, rfl⟩
  | [], k :: ks, h, z => by cases h
  | e :: r, [], h, z => by cases h
  | e :: r, k :: ks, h, z => by
    have h1 : He.keyOf e :: r.map He.keyOf = some (k, PyData.keyHash P k) :: He.keysIn P ks := h
    injection h1 with h2 h3
    obtain ⟨i1, i2⟩ := find_keys h3 z
    unfold He.keyOf at h2
    split at h2
    · rename_i x t q
      obtain ⟨h5, h6⟩ := Prod.mk.inj (Option.some.inj h2)
      subst h5
      have e1 : e.key.isStr z = (x == z) := by rw [q]; rfl
      refine ⟨?_, ?_⟩
      · rw [List.find?_cons, e1, List.contains_cons, ← i1]
        cases y : x == z with
        | true =>
          rw [beq_iff_eq.mp y, beq_self_eq_true]
          rfl
        | false =>
          have y2 : (z == x) = false := beq_eq_false_iff_ne.mpr fun w => (beq_eq_false_iff_ne.mp y) w.symm
          rw [y2]
          rfl
      · rw [List.any_cons, i2, Bool.or_false]
        unfold DictEntry.refKey
        rw [q]
    · cases h2
theorem txtD_of {K : PySem.W.Frag} {w : World} {a : Addr} {ks : List Str} (h : He.dicW K a = some (He.keysIn w.params ks)) : TxtD K w a ks := by
  obtain ⟨es, n, D⟩ := He.dicW_ok h
  obtain ⟨es', n', l, q⟩ := dicW_es h
  have D1 := D.at_
  rw [l] at D1
  cases D1
  refine ⟨⟨es, n, D, fun z => ?_⟩⟩
  obtain ⟨f1, f2⟩ := find_keys q z
  have e0 : PySem.W.nsIn K a z = (match es.toList.find? (·.key.isStr z) with
    | some e => some (some e.val)
    | none => if es.toList.any (·.refKey) then none else some none) := by
    unfold PySem.W.nsIn
    rw [l]
    rfl
  cases y : es.toList.find? (·.key.isStr z) with
  | some e =>
    rw [y] at f1
    refine ⟨some e.val, ?_, f1⟩
    rw [e0, y]
  | none =>
    rw [y] at f1
    refine ⟨none, ?_, f1⟩
    rw [e0, y]
    show (if es.toList.any (·.refKey) then none else some none) = some none
    rw [f2]
    rfl
theorem SaysT_dic {fa : List He.Fa} {fn : List He.DefD} {ts : List He.Tab} {w : World} {K : PySem.W.Frag} (c : He.SaysT fa fn ts w K) (i : Nat) {t : He.Tab} (h : ts[i]? = some t := by rfl) : He.dicW K (t.1 K) = some (He.keysIn w.params t.2) := by
  have e : ts.map (fun t => He.dicW K (t.1 K)) = ts.map fun t => some (He.keysIn w.params t.2) := congrArg (fun z : He.AlT => z.2) c
  have e2 : (ts.map fun t => He.dicW K (t.1 K))[i]? = (ts.map fun t => some (He.keysIn w.params t.2))[i]? := by rw [e]
  rw [List.getElem?_map, List.getElem?_map, h] at e2
  exact Option.some.inj e2
def bmB (K : PySem.W.Frag) (g : Addr) : Bool := decide (PySem.W.specialIn K (.ref g) "__get__" = some (some (.builtin "function.__get__"))) && (decide (PySem.W.takesIn K (.ref g) = some false) && PySem.W.fnIn K g)
theorem bm_of {K : PySem.W.Frag} {C g : Addr} {m : Str} (M : Meth K C m g) (h : bmB K g = true) (cp : PySem.W.copiedNames.contains m = false) : BMeth K C m g := by
  obtain ⟨h1, h2⟩ := He.ba h
  obtain ⟨h3, h4⟩ := He.ba h2
  exact ⟨M, of_decide_eq_true h1, of_decide_eq_true h3, cp, h4⟩
theorem binds_full {K : PySem.W.Frag} {x qual : Str} {params : Arguments} {body : List Stmt} {scope : Scope} {dvs : List V} {kws : List (Str × V)} {f : Addr} {fd : FuncData} {ps : List Str} (F : FunD K x qual params body scope dvs kws f fd) (hd : dvs ≠ [])
    (h : ∀ (T : Addr) (kV doc pm : Value) (an : Option Addr) (cdv ct : Value) (us its : List Value), us.length = ps.length → its.length = dvs.length →
      ∃ k, bindArgs (PySem.W.fnOf x qual params body scope (.ref T) kV doc pm an cdv ct) ⟨us, []⟩ = seqItems? (.ref T) >>= k ∧ k (some its.toArray) = pure (ps.zip (us ++ its.drop dvs.length))) : Binds K fd ps [] := by
  obtain ⟨ds, r, b⟩ := F.binds1 (ps := ps) ps.length dvs.length hd (by omega) h
  have e : dvs.drop dvs.length = [] := List.drop_length
  rw [e] at r
  cases r
  exact b
theorem code_of {K : PySem.W.Frag} {x qual : Str} {params : Arguments} {body : List Stmt} {scope : Scope} {dvs : List V} {kws : List (Str × V)} {p : Str × Option Str} {fd : FuncData} (F : FunD K x qual params body scope dvs kws (He.fAd K p) fd) : fd.code = .ref (He.codeOf K p) := by
  obtain ⟨oc, od, dV, kV, doc, pm, an, cdv, ct, osl, rfl, lk, hcd, _, _⟩ := F.ex
  obtain ⟨c, rfl⟩ := He.codeIn_ref hcd
  exact congrArg Value.ref (He.codeOf_eq lk rfl).symm
end EndX
/-! part K41e_1 -/
namespace Kx
open PySem PySem.Spec PyProof.Rows L2 My DL
def dd0 : He.DefD := ⟨("things_of", none), "things_of", "things_of", defArgs s_things_of, defBody s_things_of, defScope s_things_of, [], []⟩
def dd1 : He.DefD := ⟨("definition_things", none), "definition_things", "definition_things", defArgs s_definition_things, defBody s_definition_things, defScope s_definition_things, [], []⟩
def dd2 : He.DefD := ⟨("blocks_of", none), "blocks_of", "blocks_of", defArgs s_blocks_of, defBody s_blocks_of, defScope s_blocks_of, [], []⟩
def dd3 : He.DefD := ⟨("declared_by", none), "declared_by", "declared_by", defArgs s_declared_by, defBody s_declared_by, defScope s_declared_by, [], []⟩
def dd4 : He.DefD := ⟨("expressions_of", none), "expressions_of", "expressions_of", defArgs s_expressions_of, defBody s_expressions_of, defScope s_expressions_of, [], []⟩
def dd5 : He.DefD := ⟨("leaves_of", none), "leaves_of", "leaves_of", defArgs s_leaves_of, defBody s_leaves_of, defScope s_leaves_of, [], []⟩
def dd6 : He.DefD := ⟨("parts_of", none), "parts_of", "parts_of", defArgs s_parts_of, defBody s_parts_of, defScope s_parts_of, [], []⟩
def dd7 : He.DefD := ⟨("folded", none), "folded", "folded", defArgs s_folded, defBody s_folded, defScope s_folded, [], []⟩
def dd8 : He.DefD := ⟨("sketched", none), "sketched", "sketched", defArgs s_sketched, defBody s_sketched, defScope s_sketched, [], []⟩
def dd9 : He.DefD := ⟨("tree_row", none), "tree_row", "tree_row", defArgs s_tree_row, defBody s_tree_row, defScope s_tree_row, [], []⟩
def dd10 : He.DefD := ⟨("_law_draw", none), "_law_draw", "_law_draw", defArgs s__law_draw, defBody s__law_draw, defScope s__law_draw, [], []⟩
def dd11 : He.DefD := ⟨("_law_pick", none), "_law_pick", "_law_pick", defArgs s__law_pick, defBody s__law_pick, defScope s__law_pick, [], []⟩
def dd12 : He.DefD := ⟨("_law_like", none), "_law_like", "_law_like", defArgs s__law_like, defBody s__law_like, defScope s__law_like, [], []⟩
def dd13 : He.DefD := ⟨("_law_begin", none), "_law_begin", "_law_begin", defArgs s__law_begin, defBody s__law_begin, defScope s__law_begin, [], []⟩
def dd14 : He.DefD := ⟨("_law_value", none), "_law_value", "_law_value", defArgs s__law_value, defBody s__law_value, defScope s__law_value, [], []⟩
def dd15 : He.DefD := ⟨("_law_new", none), "_law_new", "_law_new", defArgs s__law_new, defBody s__law_new, defScope s__law_new, [], []⟩
def dd16 : He.DefD := ⟨("_law_use", none), "_law_use", "_law_use", defArgs s__law_use, defBody s__law_use, defScope s__law_use, [], []⟩
def dd17 : He.DefD := ⟨("_law_terms", none), "_law_terms", "_law_terms", defArgs s__law_terms, defBody s__law_terms, defScope s__law_terms, [], []⟩
def dd18 : He.DefD := ⟨("_law_term_things", none), "_law_term_things", "_law_term_things", defArgs s__law_term_things, defBody s__law_term_things, defScope s__law_term_things, [], []⟩
def dd19 : He.DefD := ⟨("_law_things", none), "_law_things", "_law_things", defArgs s__law_things, defBody s__law_things, defScope s__law_things, [], []⟩
def dd20 : He.DefD := ⟨("_law_sketch_term", none), "_law_sketch_term", "_law_sketch_term", defArgs s__law_sketch_term, defBody s__law_sketch_term, defScope s__law_sketch_term, [], []⟩
def dd21 : He.DefD := ⟨("_law_sketch", none), "_law_sketch", "_law_sketch", defArgs s__law_sketch, defBody s__law_sketch, defScope s__law_sketch, [], []⟩
def dd22 : He.DefD := ⟨("_law_any_id", none), "_law_any_id", "_law_any_id", defArgs s__law_any_id, defBody s__law_any_id, defScope s__law_any_id, [], []⟩
def dd23 : He.DefD := ⟨("_law_any_term", none), "_law_any_term", "_law_any_term", defArgs s__law_any_term, defBody s__law_any_term, defScope s__law_any_term, [], []⟩
def dd24 : He.DefD := ⟨("_law_any_sketch", none), "_law_any_sketch", "_law_any_sketch", defArgs s__law_any_sketch, defBody s__law_any_sketch, defScope s__law_any_sketch, [], []⟩
def dd25 : He.DefD := ⟨("law", none), "law", "law", defArgs s_law, defBody s_law, defScope s_law, [], []⟩
def dd26 : He.DefD := ⟨("Numbering", some "__init__"), "__init__", "Numbering.__init__", defArgs s_Numbering__init__, defBody s_Numbering__init__, defScope s_Numbering__init__, [.int 0], []⟩
def dd27 : He.DefD := ⟨("Numbering", some "_fresh"), "_fresh", "Numbering._fresh", defArgs s_Numbering_fresh, defBody s_Numbering_fresh, defScope s_Numbering_fresh, [], []⟩
def dd28 : He.DefD := ⟨("Numbering", some "_enter"), "_enter", "Numbering._enter", defArgs s_Numbering_enter, defBody s_Numbering_enter, defScope s_Numbering_enter, [], []⟩
def dd29 : He.DefD := ⟨("Numbering", some "_number_row"), "_number_row", "Numbering._number_row", defArgs s_Numbering_number_row, defBody s_Numbering_number_row, defScope s_Numbering_number_row, [], []⟩
def dd30 : He.DefD := ⟨("Numbering", some "_number_second_half"), "_number_second_half", "Numbering._number_second_half", defArgs s_Numbering_number_second_half, defBody s_Numbering_number_second_half, defScope s_Numbering_number_second_half, [], []⟩
def dd31 : He.DefD := ⟨("Numbering", some "_content"), "_content", "Numbering._content", defArgs s_Numbering_content, defBody s_Numbering_content, defScope s_Numbering_content, [], []⟩
def dd32 : He.DefD := ⟨("Numbering", some "_definition"), "_definition", "Numbering._definition", defArgs s_Numbering_definition, defBody s_Numbering_definition, defScope s_Numbering_definition, [], []⟩
def dd33 : He.DefD := ⟨("Numbering", some "_first_half"), "_first_half", "Numbering._first_half", defArgs s_Numbering_first_half, defBody s_Numbering_first_half, defScope s_Numbering_first_half, [], []⟩
def dd34 : He.DefD := ⟨("Numbering", some "_block"), "_block", "Numbering._block", defArgs s_Numbering_block, defBody s_Numbering_block, defScope s_Numbering_block, [], []⟩
def dd35 : He.DefD := ⟨("Numbering", some "_declaration"), "_declaration", "Numbering._declaration", defArgs s_Numbering_declaration, defBody s_Numbering_declaration, defScope s_Numbering_declaration, [], []⟩
def dd36 : He.DefD := ⟨("Numbering", some "_use"), "_use", "Numbering._use", defArgs s_Numbering_use, defBody s_Numbering_use, defScope s_Numbering_use, [], []⟩
def dd37 : He.DefD := ⟨("Numbering", some "_leaf"), "_leaf", "Numbering._leaf", defArgs s_Numbering_leaf, defBody s_Numbering_leaf, defScope s_Numbering_leaf, [], []⟩
def dd38 : He.DefD := ⟨("Numbering", some "_expression"), "_expression", "Numbering._expression", defArgs s_Numbering_expression, defBody s_Numbering_expression, defScope s_Numbering_expression, [], []⟩
def fn : List He.DefD := [dd0, dd1, dd2, dd3, dd4, dd5, dd6, dd7, dd8, dd9, dd10, dd11, dd12, dd13, dd14, dd15, dd16, dd17, dd18, dd19, dd20, dd21, dd22, dd23, dd24, dd25, dd26, dd27, dd28, dd29, dd30, dd31, dd32, dd33, dd34, dd35, dd36, dd37, dd38]
def fas : List He.Fa := [.glo "things_of", .glo "definition_things", .glo "blocks_of", .glo "declared_by", .glo "expressions_of", .glo "leaves_of", .glo "parts_of", .glo "folded", .glo "sketched", .glo "tree_row", .glo "_law_draw", .glo "_law_pick", .glo "_law_like", .glo "_law_begin", .glo "_law_value", .glo "_law_new", .glo "_law_use", .glo "_law_terms", .glo "_law_term_things", .glo "_law_things", .glo "_law_sketch_term", .glo "_law_sketch", .glo "_law_any_id", .glo "_law_any_term", .glo "_law_any_sketch", .glo "law", .glo "Numbering", .cls "Numbering", .noat "Numbering" "_owner", .noat "Numbering" "behind", .noat "Numbering" "placed", .noat "Numbering" "declared", .noat "Numbering" "used", .noat "Numbering" "told", .noat "Numbering" "root", .noat "Numbering" "_waiting", .meth "Numbering" "_fresh", .meth "Numbering" "_enter", .meth "Numbering" "_number_row", .meth "Numbering" "_number_second_half", .meth "Numbering" "_content", .meth "Numbering" "_definition", .meth "Numbering" "_first_half", .meth "Numbering" "_block", .meth "Numbering" "_declaration", .meth "Numbering" "_use", .meth "Numbering" "_leaf", .meth "Numbering" "_expression", .mkr "Numbering", .free "all", .free "bool", .free "dict", .free "int", .free "isinstance", .free "len", .free "list", .free "range", .free "reversed", .free "str", .free "tuple", .free "zip", .glo "STRENGTHS"]
def tbs : List He.Tab := [(fun K => He.ga K "STRENGTHS", ["*", "+", "-", "<"])]
def tfs : List He.Defn := [("Numbering", some "_expression")]
def ex (K : PySem.W.Frag) : Bool := [(("Numbering" : Str), ("_fresh" : Str)), (("Numbering" : Str), ("_enter" : Str)), (("Numbering" : Str), ("_number_row" : Str)), (("Numbering" : Str), ("_number_second_half" : Str)), (("Numbering" : Str), ("_content" : Str)), (("Numbering" : Str), ("_definition" : Str)), (("Numbering" : Str), ("_first_half" : Str)), (("Numbering" : Str), ("_block" : Str)), (("Numbering" : Str), ("_declaration" : Str)), (("Numbering" : Str), ("_use" : Str)), (("Numbering" : Str), ("_leaf" : Str)), (("Numbering" : Str), ("_expression" : Str))].all fun (x : Str × Str) => EndX.bmB K (He.ma K (He.ga K x.1) x.2)
theorem exm_0 {K : PySem.W.Frag} (h : ex K = true) : EndX.bmB K (He.ma K (He.ga K "Numbering") "_fresh") = true := List.all_eq_true.mp h (("Numbering" : Str), ("_fresh" : Str)) (List.mem_of_getElem? (i := 0) rfl)
theorem exm_1 {K : PySem.W.Frag} (h : ex K = true) : EndX.bmB K (He.ma K (He.ga K "Numbering") "_enter") = true := List.all_eq_true.mp h (("Numbering" : Str), ("_enter" : Str)) (List.mem_of_getElem? (i := 1) rfl)
theorem exm_2 {K : PySem.W.Frag} (h : ex K = true) : EndX.bmB K (He.ma K (He.ga K "Numbering") "_number_row") = true := List.all_eq_true.mp h (("Numbering" : Str), ("_number_row" : Str)) (List.mem_of_getElem? (i := 2) rfl)
theorem exm_3 {K : PySem.W.Frag} (h : ex K = true) : EndX.bmB K (He.ma K (He.ga K "Numbering") "_number_second_half") = true := List.all_eq_true.mp h (("Numbering" : Str), ("_number_second_half" : Str)) (List.mem_of_getElem? (i := 3) rfl)
theorem exm_4 {K : PySem.W.Frag} (h : ex K = true) : EndX.bmB K (He.ma K (He.ga K "Numbering") "_content") = true := List.all_eq_true.mp h (("Numbering" : Str), ("_content" : Str)) (List.mem_of_getElem? (i := 4) rfl)
theorem exm_5 {K : PySem.W.Frag} (h : ex K = true) : EndX.bmB K (He.ma K (He.ga K "Numbering") "_definition") = true := List.all_eq_true.mp h (("Numbering" : Str), ("_definition" : Str)) (List.mem_of_getElem? (i := 5) rfl)
theorem exm_6 {K : PySem.W.Frag} (h : ex K = true) : EndX.bmB K (He.ma K (He.ga K "Numbering") "_first_half") = true := List.all_eq_true.mp h (("Numbering" : Str), ("_first_half" : Str)) (List.mem_of_getElem? (i := 6) rfl)
theorem exm_7 {K : PySem.W.Frag} (h : ex K = true) : EndX.bmB K (He.ma K (He.ga K "Numbering") "_block") = true := List.all_eq_true.mp h (("Numbering" : Str), ("_block" : Str)) (List.mem_of_getElem? (i := 7) rfl)
theorem exm_8 {K : PySem.W.Frag} (h : ex K = true) : EndX.bmB K (He.ma K (He.ga K "Numbering") "_declaration") = true := List.all_eq_true.mp h (("Numbering" : Str), ("_declaration" : Str)) (List.mem_of_getElem? (i := 8) rfl)
theorem exm_9 {K : PySem.W.Frag} (h : ex K = true) : EndX.bmB K (He.ma K (He.ga K "Numbering") "_use") = true := List.all_eq_true.mp h (("Numbering" : Str), ("_use" : Str)) (List.mem_of_getElem? (i := 9) rfl)
theorem exm_10 {K : PySem.W.Frag} (h : ex K = true) : EndX.bmB K (He.ma K (He.ga K "Numbering") "_leaf") = true := List.all_eq_true.mp h (("Numbering" : Str), ("_leaf" : Str)) (List.mem_of_getElem? (i := 10) rfl)
theorem exm_11 {K : PySem.W.Frag} (h : ex K = true) : EndX.bmB K (He.ma K (He.ga K "Numbering") "_expression") = true := List.all_eq_true.mp h (("Numbering" : Str), ("_expression" : Str)) (List.mem_of_getElem? (i := 11) rfl)
abbrev Sx := He.SaysX fas fn tbs tfs ex
section
variable {P : Program} {w : World} {K : PySem.W.Frag} {h : Heap} {mg : Str → Option Value}
set_option maxHeartbeats 8000000 in
theorem mkT (X : K.In h) (G : h.Ns mainGlobals mg) (c : Sx w h K) : ∃ T : Tx K mg, T.f_law = He.ga K "law" ∧ T.d_Numbering_expression.code = .ref (He.codeOf K ("Numbering", some "_expression")) := by
  obtain ⟨d0, D0⟩ := c.t.d.def_ 0 (d := dd0) rfl
  have E0 : Fun K "things_of" "things_of" s_things_of (He.ga K "things_of") d0 := EndX.Fun_of D0
  obtain ⟨d1, D1⟩ := c.t.d.def_ 1 (d := dd1) rfl
  have E1 : Fun K "definition_things" "definition_things" s_definition_things (He.ga K "definition_things") d1 := EndX.Fun_of D1
  obtain ⟨d2, D2⟩ := c.t.d.def_ 2 (d := dd2) rfl
  have E2 : Fun K "blocks_of" "blocks_of" s_blocks_of (He.ga K "blocks_of") d2 := EndX.Fun_of D2
  obtain ⟨d3, D3⟩ := c.t.d.def_ 3 (d := dd3) rfl
  have E3 : Fun K "declared_by" "declared_by" s_declared_by (He.ga K "declared_by") d3 := EndX.Fun_of D3
  obtain ⟨d4, D4⟩ := c.t.d.def_ 4 (d := dd4) rfl
  have E4 : Fun K "expressions_of" "expressions_of" s_expressions_of (He.ga K "expressions_of") d4 := EndX.Fun_of D4
  obtain ⟨d5, D5⟩ := c.t.d.def_ 5 (d := dd5) rfl
  have E5 : Fun K "leaves_of" "leaves_of" s_leaves_of (He.ga K "leaves_of") d5 := EndX.Fun_of D5
  obtain ⟨d6, D6⟩ := c.t.d.def_ 6 (d := dd6) rfl
  have E6 : Fun K "parts_of" "parts_of" s_parts_of (He.ga K "parts_of") d6 := EndX.Fun_of D6
  obtain ⟨d7, D7⟩ := c.t.d.def_ 7 (d := dd7) rfl
  have E7 : Fun K "folded" "folded" s_folded (He.ga K "folded") d7 := EndX.Fun_of D7
  obtain ⟨d8, D8⟩ := c.t.d.def_ 8 (d := dd8) rfl
  have E8 : Fun K "sketched" "sketched" s_sketched (He.ga K "sketched") d8 := EndX.Fun_of D8
  obtain ⟨d9, D9⟩ := c.t.d.def_ 9 (d := dd9) rfl
  have E9 : Fun K "tree_row" "tree_row" s_tree_row (He.ga K "tree_row") d9 := EndX.Fun_of D9
  obtain ⟨d10, D10⟩ := c.t.d.def_ 10 (d := dd10) rfl
  have E10 : Fun K "_law_draw" "_law_draw" s__law_draw (He.ga K "_law_draw") d10 := EndX.Fun_of D10
  obtain ⟨d11, D11⟩ := c.t.d.def_ 11 (d := dd11) rfl
  have E11 : Fun K "_law_pick" "_law_pick" s__law_pick (He.ga K "_law_pick") d11 := EndX.Fun_of D11
  obtain ⟨d12, D12⟩ := c.t.d.def_ 12 (d := dd12) rfl
  have E12 : Fun K "_law_like" "_law_like" s__law_like (He.ga K "_law_like") d12 := EndX.Fun_of D12
  obtain ⟨d13, D13⟩ := c.t.d.def_ 13 (d := dd13) rfl
  have E13 : Fun K "_law_begin" "_law_begin" s__law_begin (He.ga K "_law_begin") d13 := EndX.Fun_of D13
  obtain ⟨d14, D14⟩ := c.t.d.def_ 14 (d := dd14) rfl
  have E14 : Fun K "_law_value" "_law_value" s__law_value (He.ga K "_law_value") d14 := EndX.Fun_of D14
  obtain ⟨d15, D15⟩ := c.t.d.def_ 15 (d := dd15) rfl
  have E15 : Fun K "_law_new" "_law_new" s__law_new (He.ga K "_law_new") d15 := EndX.Fun_of D15
  obtain ⟨d16, D16⟩ := c.t.d.def_ 16 (d := dd16) rfl
  have E16 : Fun K "_law_use" "_law_use" s__law_use (He.ga K "_law_use") d16 := EndX.Fun_of D16
  obtain ⟨d17, D17⟩ := c.t.d.def_ 17 (d := dd17) rfl
  have E17 : Fun K "_law_terms" "_law_terms" s__law_terms (He.ga K "_law_terms") d17 := EndX.Fun_of D17
  obtain ⟨d18, D18⟩ := c.t.d.def_ 18 (d := dd18) rfl
  have E18 : Fun K "_law_term_things" "_law_term_things" s__law_term_things (He.ga K "_law_term_things") d18 := EndX.Fun_of D18
  obtain ⟨d19, D19⟩ := c.t.d.def_ 19 (d := dd19) rfl
  have E19 : Fun K "_law_things" "_law_things" s__law_things (He.ga K "_law_things") d19 := EndX.Fun_of D19
  obtain ⟨d20, D20⟩ := c.t.d.def_ 20 (d := dd20) rfl
  have E20 : Fun K "_law_sketch_term" "_law_sketch_term" s__law_sketch_term (He.ga K "_law_sketch_term") d20 := EndX.Fun_of D20
  obtain ⟨d21, D21⟩ := c.t.d.def_ 21 (d := dd21) rfl
  have E21 : Fun K "_law_sketch" "_law_sketch" s__law_sketch (He.ga K "_law_sketch") d21 := EndX.Fun_of D21
  obtain ⟨d22, D22⟩ := c.t.d.def_ 22 (d := dd22) rfl
  have E22 : Fun K "_law_any_id" "_law_any_id" s__law_any_id (He.ga K "_law_any_id") d22 := EndX.Fun_of D22
  obtain ⟨d23, D23⟩ := c.t.d.def_ 23 (d := dd23) rfl
  have E23 : Fun K "_law_any_term" "_law_any_term" s__law_any_term (He.ga K "_law_any_term") d23 := EndX.Fun_of D23
  obtain ⟨d24, D24⟩ := c.t.d.def_ 24 (d := dd24) rfl
  have E24 : Fun K "_law_any_sketch" "_law_any_sketch" s__law_any_sketch (He.ga K "_law_any_sketch") d24 := EndX.Fun_of D24
  obtain ⟨d25, D25⟩ := c.t.d.def_ 25 (d := dd25) rfl
  have E25 : Fun K "law" "law" s_law (He.ga K "law") d25 := EndX.Fun_of D25
  obtain ⟨d26, E26⟩ := c.t.d.def_ 26 (d := dd26) rfl
  obtain ⟨d27, D27⟩ := c.t.d.def_ 27 (d := dd27) rfl
  have E27 : Fun K "_fresh" "Numbering._fresh" s_Numbering_fresh (He.ma K (He.ga K "Numbering") "_fresh") d27 := EndX.Fun_of D27
  obtain ⟨d28, D28⟩ := c.t.d.def_ 28 (d := dd28) rfl
  have E28 : Fun K "_enter" "Numbering._enter" s_Numbering_enter (He.ma K (He.ga K "Numbering") "_enter") d28 := EndX.Fun_of D28
  obtain ⟨d29, D29⟩ := c.t.d.def_ 29 (d := dd29) rfl
  have E29 : Fun K "_number_row" "Numbering._number_row" s_Numbering_number_row (He.ma K (He.ga K "Numbering") "_number_row") d29 := EndX.Fun_of D29
  obtain ⟨d30, D30⟩ := c.t.d.def_ 30 (d := dd30) rfl
  have E30 : Fun K "_number_second_half" "Numbering._number_second_half" s_Numbering_number_second_half (He.ma K (He.ga K "Numbering") "_number_second_half") d30 := EndX.Fun_of D30
  obtain ⟨d31, D31⟩ := c.t.d.def_ 31 (d := dd31) rfl
  have E31 : Fun K "_content" "Numbering._content" s_Numbering_content (He.ma K (He.ga K "Numbering") "_content") d31 := EndX.Fun_of D31
  obtain ⟨d32, D32⟩ := c.t.d.def_ 32 (d := dd32) rfl
  have E32 : Fun K "_definition" "Numbering._definition" s_Numbering_definition (He.ma K (He.ga K "Numbering") "_definition") d32 := EndX.Fun_of D32
  obtain ⟨d33, D33⟩ := c.t.d.def_ 33 (d := dd33) rfl
  have E33 : Fun K "_first_half" "Numbering._first_half" s_Numbering_first_half (He.ma K (He.ga K "Numbering") "_first_half") d33 := EndX.Fun_of D33
  obtain ⟨d34, D34⟩ := c.t.d.def_ 34 (d := dd34) rfl
  have E34 : Fun K "_block" "Numbering._block" s_Numbering_block (He.ma K (He.ga K "Numbering") "_block") d34 := EndX.Fun_of D34
  obtain ⟨d35, D35⟩ := c.t.d.def_ 35 (d := dd35) rfl
  have E35 : Fun K "_declaration" "Numbering._declaration" s_Numbering_declaration (He.ma K (He.ga K "Numbering") "_declaration") d35 := EndX.Fun_of D35
  obtain ⟨d36, D36⟩ := c.t.d.def_ 36 (d := dd36) rfl
  have E36 : Fun K "_use" "Numbering._use" s_Numbering_use (He.ma K (He.ga K "Numbering") "_use") d36 := EndX.Fun_of D36
  obtain ⟨d37, D37⟩ := c.t.d.def_ 37 (d := dd37) rfl
  have E37 : Fun K "_leaf" "Numbering._leaf" s_Numbering_leaf (He.ma K (He.ga K "Numbering") "_leaf") d37 := EndX.Fun_of D37
  obtain ⟨d38, D38⟩ := c.t.d.def_ 38 (d := dd38) rfl
  have E38 : Fun K "_expression" "Numbering._expression" s_Numbering_expression (He.ma K (He.ga K "Numbering") "_expression") d38 := EndX.Fun_of D38
  refine ⟨{ f_things_of := He.ga K "things_of", d_things_of := d0, F_things_of := E0, g_things_of := He.glo_ok X G (c.t.d.fact 0 (f := .glo "things_of") rfl), b_things_of := (E0).binds (ps := ["content"]) (fun _ _ _ _ _ _ us hl => match us, hl with | [_], _ => rfl), f_definition_things := He.ga K "definition_things", d_definition_things := d1, F_definition_things := E1, g_definition_things := He.glo_ok X G (c.t.d.fact 1 (f := .glo "definition_things") rfl), b_definition_things := (E1).binds (ps := ["content"]) (fun _ _ _ _ _ _ us hl => match us, hl with | [_], _ => rfl), f_blocks_of := He.ga K "blocks_of", d_blocks_of := d2, F_blocks_of := E2, g_blocks_of := He.glo_ok X G (c.t.d.fact 2 (f := .glo "blocks_of") rfl), b_blocks_of := (E2).binds (ps := ["content"]) (fun _ _ _ _ _ _ us hl => match us, hl with | [_], _ => rfl), f_declared_by := He.ga K "declared_by", d_declared_by := d3, F_declared_by := E3, g_declared_by := He.glo_ok X G (c.t.d.fact 3 (f := .glo "declared_by") rfl), b_declared_by := (E3).binds (ps := ["content"]) (fun _ _ _ _ _ _ us hl => match us, hl with | [_], _ => rfl), f_expressions_of := He.ga K "expressions_of", d_expressions_of := d4, F_expressions_of := E4, g_expressions_of := He.glo_ok X G (c.t.d.fact 4 (f := .glo "expressions_of") rfl), b_expressions_of := (E4).binds (ps := ["content"]) (fun _ _ _ _ _ _ us hl => match us, hl with | [_], _ => rfl), f_leaves_of := He.ga K "leaves_of", d_leaves_of := d5, F_leaves_of := E5, g_leaves_of := He.glo_ok X G (c.t.d.fact 5 (f := .glo "leaves_of") rfl), b_leaves_of := (E5).binds (ps := ["expression"]) (fun _ _ _ _ _ _ us hl => match us, hl with | [_], _ => rfl), f_parts_of := He.ga K "parts_of", d_parts_of := d6, F_parts_of := E6, g_parts_of := He.glo_ok X G (c.t.d.fact 6 (f := .glo "parts_of") rfl), b_parts_of := (E6).binds (ps := ["expression"]) (fun _ _ _ _ _ _ us hl => match us, hl with | [_], _ => rfl), f_folded := He.ga K "folded", d_folded := d7, F_folded := E7, g_folded := He.glo_ok X G (c.t.d.fact 7 (f := .glo "folded") rfl), b_folded := (E7).binds (ps := ["expression", "at_leaf", "at_sign"]) (fun _ _ _ _ _ _ us hl => match us, hl with | [_, _, _], _ => rfl), f_sketched := He.ga K "sketched", d_sketched := d8, F_sketched := E8, g_sketched := He.glo_ok X G (c.t.d.fact 8 (f := .glo "sketched") rfl), f_tree_row := He.ga K "tree_row", d_tree_row := d9, F_tree_row := E9, g_tree_row := He.glo_ok X G (c.t.d.fact 9 (f := .glo "tree_row") rfl), b_tree_row := (E9).binds (ps := ["sketch"]) (fun _ _ _ _ _ _ us hl => match us, hl with | [_], _ => rfl), f__law_draw := He.ga K "_law_draw", d__law_draw := d10, F__law_draw := E10, g__law_draw := He.glo_ok X G (c.t.d.fact 10 (f := .glo "_law_draw") rfl), b__law_draw := (E10).binds (ps := ["_law_box", "_law_many"]) (fun _ _ _ _ _ _ us hl => match us, hl with | [_, _], _ => rfl), f__law_pick := He.ga K "_law_pick", d__law_pick := d11, F__law_pick := E11, g__law_pick := He.glo_ok X G (c.t.d.fact 11 (f := .glo "_law_pick") rfl), b__law_pick := (E11).binds (ps := ["_law_box", "_law_row"]) (fun _ _ _ _ _ _ us hl => match us, hl with | [_, _], _ => rfl), f__law_like := He.ga K "_law_like", d__law_like := d12, F__law_like := E12, g__law_like := He.glo_ok X G (c.t.d.fact 12 (f := .glo "_law_like") rfl), b__law_like := (E12).binds (ps := ["_law_found", "_law_due"]) (fun _ _ _ _ _ _ us hl => match us, hl with | [_, _], _ => rfl), f__law_begin := He.ga K "_law_begin", d__law_begin := d13, F__law_begin := E13, g__law_begin := He.glo_ok X G (c.t.d.fact 13 (f := .glo "_law_begin") rfl), b__law_begin := (E13).binds (ps := ["_law_script"]) (fun _ _ _ _ _ _ us hl => match us, hl with | [_], _ => rfl), f__law_value := He.ga K "_law_value", d__law_value := d14, F__law_value := E14, g__law_value := He.glo_ok X G (c.t.d.fact 14 (f := .glo "_law_value") rfl), b__law_value := (E14).binds (ps := ["_law_box"]) (fun _ _ _ _ _ _ us hl => match us, hl with | [_], _ => rfl), f__law_new := He.ga K "_law_new", d__law_new := d15, F__law_new := E15, g__law_new := He.glo_ok X G (c.t.d.fact 15 (f := .glo "_law_new") rfl), b__law_new := (E15).binds (ps := ["_law_w"]) (fun _ _ _ _ _ _ us hl => match us, hl with | [_], _ => rfl), f__law_use := He.ga K "_law_use", d__law_use := d16, F__law_use := E16, g__law_use := He.glo_ok X G (c.t.d.fact 16 (f := .glo "_law_use") rfl), b__law_use := (E16).binds (ps := ["_law_w", "_law_label"]) (fun _ _ _ _ _ _ us hl => match us, hl with | [_, _], _ => rfl), f__law_terms := He.ga K "_law_terms", d__law_terms := d17, F__law_terms := E17, g__law_terms := He.glo_ok X G (c.t.d.fact 17 (f := .glo "_law_terms") rfl), b__law_terms := (E17).binds (ps := ["_law_content"]) (fun _ _ _ _ _ _ us hl => match us, hl with | [_], _ => rfl), f__law_term_things := He.ga K "_law_term_things", d__law_term_things := d18, F__law_term_things := E18, g__law_term_things := He.glo_ok X G (c.t.d.fact 18 (f := .glo "_law_term_things") rfl), b__law_term_things := (E18).binds (ps := ["_law_term"]) (fun _ _ _ _ _ _ us hl => match us, hl with | [_], _ => rfl), f__law_things := He.ga K "_law_things", d__law_things := d19, F__law_things := E19, g__law_things := He.glo_ok X G (c.t.d.fact 19 (f := .glo "_law_things") rfl), b__law_things := (E19).binds (ps := ["_law_content"]) (fun _ _ _ _ _ _ us hl => match us, hl with | [_], _ => rfl), f__law_sketch_term := He.ga K "_law_sketch_term", d__law_sketch_term := d20, F__law_sketch_term := E20, g__law_sketch_term := He.glo_ok X G (c.t.d.fact 20 (f := .glo "_law_sketch_term") rfl), b__law_sketch_term := (E20).binds (ps := ["_law_w", "_law_term"]) (fun _ _ _ _ _ _ us hl => match us, hl with | [_, _], _ => rfl), f__law_sketch := He.ga K "_law_sketch", d__law_sketch := d21, F__law_sketch := E21, g__law_sketch := He.glo_ok X G (c.t.d.fact 21 (f := .glo "_law_sketch") rfl), b__law_sketch := (E21).binds (ps := ["_law_sketch_z", "_law_person_z", "_law_start_z"]) (fun _ _ _ _ _ _ us hl => match us, hl with | [_, _, _], _ => rfl), f__law_any_id := He.ga K "_law_any_id", d__law_any_id := d22, F__law_any_id := E22, g__law_any_id := He.glo_ok X G (c.t.d.fact 22 (f := .glo "_law_any_id") rfl), b__law_any_id := (E22).binds (ps := ["_law_box"]) (fun _ _ _ _ _ _ us hl => match us, hl with | [_], _ => rfl), f__law_any_term := He.ga K "_law_any_term", d__law_any_term := d23, F__law_any_term := E23, g__law_any_term := He.glo_ok X G (c.t.d.fact 23 (f := .glo "_law_any_term") rfl), b__law_any_term := (E23).binds (ps := ["_law_box", "_law_deep"]) (fun _ _ _ _ _ _ us hl => match us, hl with | [_, _], _ => rfl), f__law_any_sketch := He.ga K "_law_any_sketch", d__law_any_sketch := d24, F__law_any_sketch := E24, g__law_any_sketch := He.glo_ok X G (c.t.d.fact 24 (f := .glo "_law_any_sketch") rfl), b__law_any_sketch := (E24).binds (ps := ["_law_box"]) (fun _ _ _ _ _ _ us hl => match us, hl with | [_], _ => rfl), f_law := He.ga K "law", d_law := d25, F_law := E25, g_law := He.glo_ok X G (c.t.d.fact 25 (f := .glo "law") rfl), C_Numbering := He.ga K "Numbering", g_Numbering := He.glo_ok X G (c.t.d.fact 26 (f := .glo "Numbering") rfl), c_Numbering := He.cls_ok (c.t.d.fact 27 (f := .cls "Numbering") rfl), n_Numbering__owner := He.noat_ok (c.t.d.fact 28 (f := .noat "Numbering" "_owner") rfl), n_Numbering_behind := He.noat_ok (c.t.d.fact 29 (f := .noat "Numbering" "behind") rfl), n_Numbering_placed := He.noat_ok (c.t.d.fact 30 (f := .noat "Numbering" "placed") rfl), n_Numbering_declared := He.noat_ok (c.t.d.fact 31 (f := .noat "Numbering" "declared") rfl), n_Numbering_used := He.noat_ok (c.t.d.fact 32 (f := .noat "Numbering" "used") rfl), n_Numbering_told := He.noat_ok (c.t.d.fact 33 (f := .noat "Numbering" "told") rfl), n_Numbering_root := He.noat_ok (c.t.d.fact 34 (f := .noat "Numbering" "root") rfl), n_Numbering__waiting := He.noat_ok (c.t.d.fact 35 (f := .noat "Numbering" "_waiting") rfl), f_Numbering__init__ := He.ma K (He.ga K "Numbering") "__init__", d_Numbering__init__ := d26, F_Numbering__init__ := E26, b_Numbering__init__ := EndX.binds_full (ps := ["self", "tree", "owner", "start"]) E26 (fun z => nomatch z) (fun _ _ _ _ _ _ _ us its h1 h2 => match us, its, h1, h2 with | [_, _, _, _], [_], _, _ => ⟨_, rfl, rfl⟩), f_Numbering_fresh := He.ma K (He.ga K "Numbering") "_fresh", d_Numbering_fresh := d27, F_Numbering_fresh := E27, b_Numbering_fresh := (E27).binds (ps := ["self"]) (fun _ _ _ _ _ _ us hl => match us, hl with | [_], _ => rfl), m_Numbering_fresh := EndX.bm_of (He.meth_ok (c.t.d.fact 36 (f := .meth "Numbering" "_fresh") rfl)) (exm_0 c.more) (by decide +kernel), f_Numbering_enter := He.ma K (He.ga K "Numbering") "_enter", d_Numbering_enter := d28, F_Numbering_enter := E28, b_Numbering_enter := (E28).binds (ps := ["self", "block", "rows"]) (fun _ _ _ _ _ _ us hl => match us, hl with | [_, _, _], _ => rfl), m_Numbering_enter := EndX.bm_of (He.meth_ok (c.t.d.fact 37 (f := .meth "Numbering" "_enter") rfl)) (exm_1 c.more) (by decide +kernel), f_Numbering_number_row := He.ma K (He.ga K "Numbering") "_number_row", d_Numbering_number_row := d29, F_Numbering_number_row := E29, b_Numbering_number_row := (E29).binds (ps := ["self", "block", "index", "row"]) (fun _ _ _ _ _ _ us hl => match us, hl with | [_, _, _, _], _ => rfl), m_Numbering_number_row := EndX.bm_of (He.meth_ok (c.t.d.fact 38 (f := .meth "Numbering" "_number_row") rfl)) (exm_2 c.more) (by decide +kernel), f_Numbering_number_second_half := He.ma K (He.ga K "Numbering") "_number_second_half", d_Numbering_number_second_half := d30, F_Numbering_number_second_half := E30, b_Numbering_number_second_half := (E30).binds (ps := ["self", "row", "rows"]) (fun _ _ _ _ _ _ us hl => match us, hl with | [_, _, _], _ => rfl), m_Numbering_number_second_half := EndX.bm_of (He.meth_ok (c.t.d.fact 39 (f := .meth "Numbering" "_number_second_half") rfl)) (exm_3 c.more) (by decide +kernel), f_Numbering_content := He.ma K (He.ga K "Numbering") "_content", d_Numbering_content := d31, F_Numbering_content := E31, b_Numbering_content := (E31).binds (ps := ["self", "thing", "row"]) (fun _ _ _ _ _ _ us hl => match us, hl with | [_, _, _], _ => rfl), m_Numbering_content := EndX.bm_of (He.meth_ok (c.t.d.fact 40 (f := .meth "Numbering" "_content") rfl)) (exm_4 c.more) (by decide +kernel), f_Numbering_definition := He.ma K (He.ga K "Numbering") "_definition", d_Numbering_definition := d32, F_Numbering_definition := E32, b_Numbering_definition := (E32).binds (ps := ["self", "row"]) (fun _ _ _ _ _ _ us hl => match us, hl with | [_, _], _ => rfl), m_Numbering_definition := EndX.bm_of (He.meth_ok (c.t.d.fact 41 (f := .meth "Numbering" "_definition") rfl)) (exm_5 c.more) (by decide +kernel), f_Numbering_first_half := He.ma K (He.ga K "Numbering") "_first_half", d_Numbering_first_half := d33, F_Numbering_first_half := E33, b_Numbering_first_half := (E33).binds (ps := ["self", "thing", "row"]) (fun _ _ _ _ _ _ us hl => match us, hl with | [_, _, _], _ => rfl), m_Numbering_first_half := EndX.bm_of (He.meth_ok (c.t.d.fact 42 (f := .meth "Numbering" "_first_half") rfl)) (exm_6 c.more) (by decide +kernel), f_Numbering_block := He.ma K (He.ga K "Numbering") "_block", d_Numbering_block := d34, F_Numbering_block := E34, b_Numbering_block := (E34).binds (ps := ["self", "rows"]) (fun _ _ _ _ _ _ us hl => match us, hl with | [_, _], _ => rfl), m_Numbering_block := EndX.bm_of (He.meth_ok (c.t.d.fact 43 (f := .meth "Numbering" "_block") rfl)) (exm_7 c.more) (by decide +kernel), f_Numbering_declaration := He.ma K (He.ga K "Numbering") "_declaration", d_Numbering_declaration := d35, F_Numbering_declaration := E35, b_Numbering_declaration := (E35).binds (ps := ["self", "label"]) (fun _ _ _ _ _ _ us hl => match us, hl with | [_, _], _ => rfl), m_Numbering_declaration := EndX.bm_of (He.meth_ok (c.t.d.fact 44 (f := .meth "Numbering" "_declaration") rfl)) (exm_8 c.more) (by decide +kernel), f_Numbering_use := He.ma K (He.ga K "Numbering") "_use", d_Numbering_use := d36, F_Numbering_use := E36, b_Numbering_use := (E36).binds (ps := ["self", "label"]) (fun _ _ _ _ _ _ us hl => match us, hl with | [_, _], _ => rfl), m_Numbering_use := EndX.bm_of (He.meth_ok (c.t.d.fact 45 (f := .meth "Numbering" "_use") rfl)) (exm_9 c.more) (by decide +kernel), f_Numbering_leaf := He.ma K (He.ga K "Numbering") "_leaf", d_Numbering_leaf := d37, F_Numbering_leaf := E37, b_Numbering_leaf := (E37).binds (ps := ["self", "leaf"]) (fun _ _ _ _ _ _ us hl => match us, hl with | [_, _], _ => rfl), m_Numbering_leaf := EndX.bm_of (He.meth_ok (c.t.d.fact 46 (f := .meth "Numbering" "_leaf") rfl)) (exm_10 c.more) (by decide +kernel), f_Numbering_expression := He.ma K (He.ga K "Numbering") "_expression", d_Numbering_expression := d38, F_Numbering_expression := E38, b_Numbering_expression := (E38).binds (ps := ["self", "expression"]) (fun _ _ _ _ _ _ us hl => match us, hl with | [_, _], _ => rfl), m_Numbering_expression := EndX.bm_of (He.meth_ok (c.t.d.fact 47 (f := .meth "Numbering" "_expression") rfl)) (exm_11 c.more) (by decide +kernel), k_Numbering := He.mkr_ok (c.t.d.fact 48 (f := .mkr "Numbering") rfl), z_all := He.free_ok X G (c.t.d.fact 49 (f := .free "all") rfl), z_bool := He.free_ok X G (c.t.d.fact 50 (f := .free "bool") rfl), z_dict := He.free_ok X G (c.t.d.fact 51 (f := .free "dict") rfl), z_int := He.free_ok X G (c.t.d.fact 52 (f := .free "int") rfl), z_isinstance := He.free_ok X G (c.t.d.fact 53 (f := .free "isinstance") rfl), z_len := He.free_ok X G (c.t.d.fact 54 (f := .free "len") rfl), z_list := He.free_ok X G (c.t.d.fact 55 (f := .free "list") rfl), z_range := He.free_ok X G (c.t.d.fact 56 (f := .free "range") rfl), z_reversed := He.free_ok X G (c.t.d.fact 57 (f := .free "reversed") rfl), z_str := He.free_ok X G (c.t.d.fact 58 (f := .free "str") rfl), z_tuple := He.free_ok X G (c.t.d.fact 59 (f := .free "tuple") rfl), z_zip := He.free_ok X G (c.t.d.fact 60 (f := .free "zip") rfl) }, rfl, EndX.code_of (p := ("Numbering", some "_expression")) D38⟩
end
abbrev R : PySem.W.OpenRow := PySem.W.OpenLaw.row PySem.Challenge.rw_piercednames_k41_sketches_put_in
def nm0 : List Str := [("__name__" : Str), ("things_of" : Str), ("definition_things" : Str), ("blocks_of" : Str), ("declared_by" : Str), ("expressions_of" : Str), ("leaves_of" : Str), ("parts_of" : Str), ("folded" : Str), ("Numbering" : Str), ("sketched" : Str), ("tree_row" : Str), ("_law_draw" : Str), ("_law_pick" : Str), ("_law_like" : Str), ("_law_begin" : Str), ("_law_value" : Str), ("_law_new" : Str), ("_law_use" : Str), ("_law_terms" : Str), ("_law_term_things" : Str), ("_law_things" : Str), ("_law_sketch_term" : Str), ("_law_sketch" : Str), ("_law_any_id" : Str), ("_law_any_term" : Str), ("_law_any_sketch" : Str), ("STRENGTHS" : Str)]
def nms : List Str := nm0
end Kx
/-! part K41e_2 -/
namespace Kx
open PySem PySem.Spec PyProof.Rows L2 My DL
abbrev hk : PySem.W.Hook := He.hookX 4 fas fn tbs tfs ex
def ob (s : PySem.W.SharedT) : He.AlX := He.obsX 4 fas fn tbs tfs ex (HandSHeadRun.getT s)
theorem ob_eq (s : PySem.W.SharedT) : ob s = hk.obs s.abs := He.obsX_eq (HandSHeadRun.getT_eq s)
theorem runF (w : World) : HandSHeadRun.RunEq R (PySem.W.view R.prog [31]) hk ob 12000 nms (w.withFollow "special-get-raises" false) := by
  intro os
  kernel_rfl
theorem runT (w : World) : HandSHeadRun.RunEq R (PySem.W.view R.prog [31]) hk ob 12000 nms (w.withFollow "special-get-raises" true) := by
  intro os
  kernel_rfl
theorem run (w : World) : HandSHeadRun.RunEq R (PySem.W.view R.prog [31]) hk ob 12000 nms w := PySem.W.byRow2 "special-get-raises" (P := fun w => HandSHeadRun.RunEq R (PySem.W.view R.prog [31]) hk ob 12000 nms w) runF runT w
end Kx
/-! part K41e_3 -/
namespace Kx
open PySem PySem.Spec PyProof.Rows L2 My DL
abbrev pE : Str × Option Str := ("Numbering", some "_expression")
theorem all_facts {l : PySem.W.OpenLaw} {w : World} {K : PySem.W.Frag} {h : Heap} {mg : Str → Option Value} {fa : Addr} (X : K.In h) (G : h.Ns mainGlobals mg) (hfa : mg "law" = some (.ref fa)) (c : Sx w h K) :
    LamX.LawAtS l w K CX0 14 63 "_law_script" mg fa h := by
  obtain ⟨T, hf, hcode⟩ := mkT X G c
  have efa : fa = T.f_law := by
    have e := hfa.symm.trans T.g_law
    injection e with e
    injection e
  subst efa
  have hb : ∀ (s : Shared) (v : Value), BindsTo s T.d_law ⟨[v], []⟩ [("_law_script", v)] := by
    obtain ⟨oc, od, kV, doc, pm, an, cdv, ct, osl, e, lk, hcd⟩ := T.F_law.ex
    rw [e]
    exact fun s v => .of_eq rfl
  refine ⟨T.d_law, [He.cT K pE], spLawT K [((He.cT K pE).2, qlamN)], fun p hp => ?_, fun p hp => ?_, fun p hp => ?_, hb, ?_, ?_⟩
  · rw [List.mem_singleton.mp hp]
    exact c.empty pE List.mem_cons_self
  · rw [List.mem_singleton.mp hp]
    exact c.out pE List.mem_cons_self
  · rw [List.mem_singleton.mp hp]
    exact PySem.W.codeHd_of_K X (c.hd pE List.mem_cons_self)
  · intro H a ns hl _ ht hS
    refine ⟨a, ns, rfl, hS, hl, fun p hp => ?_, fun _ => rfl⟩
    rw [List.mem_singleton.mp hp]
    refine ⟨id, #[], ht _ List.mem_cons_self, ?_, fun pos cv hc => ?_⟩
    · exact True.intro
    · cases hc
  · intro base hK hN hTab
    let SD : Ts K w mg := ⟨He.ga K "STRENGTHS", He.glo_ok X G (c.t.d.facts (f := .glo "STRENGTHS") (List.mem_of_getElem? (i := 61) rfl)), EndX.txtD_of (EndX.SaysT_dic c.t 0 rfl)⟩
    let TN : TbN K mg base T := ⟨_, _, hcode, hTab _ List.mem_cons_self⟩
    have hT : HasTab (AmT [((He.cT K pE).2, qlamN)]) TN.P qlamN := hasTab_T List.mem_cons_self fun p hp _ => by rw [List.mem_singleton.mp hp]
    exact ok_law (base := base) T SD [((He.cT K pE).2, qlamN)] TN hT
end Kx
open PySem PySem.W PyProof.Rows
set_option maxRecDepth 100000 in
set_option maxHeartbeats 0 in
theorem PySem.Challenge.cw_piercednames_k41_sketches_put_in_holds : PySem.Challenge.rw_piercednames_k41_sketches_put_in.Holds := by
  w_on; o_law
  refine HandSHeadRun.head_any (r := OpenLaw.row PySem.Challenge.rw_piercednames_k41_sketches_put_in) (q := view (OpenLaw.row PySem.Challenge.rw_piercednames_k41_sketches_put_in).prog [31]) (H := Kx.hk) (ob := Kx.ob) (M := 12000) (loose := Kx.nms) (d := HandSHeadRun.topDef (OpenLaw.row PySem.Challenge.rw_piercednames_k41_sketches_put_in).prog 31) (kwd := []) Kx.ob_eq
    (by kernel_rfl) (fun s => by kernel_rfl) Kx.run (by kernel_rfl) (by kernel_rfl) (by kernel_rfl) (by rfl) (by first | assumption | decide +kernel) (by decide +kernel) ⟨rfl, rfl, rfl, rfl, rfl, by decide +kernel⟩ ?hw ?hc
  case hw => w_witness2
  case hc =>
    refine LamX.walk_ofTsE (l := PySem.Challenge.rw_piercednames_k41_sketches_put_in) (n := 63) (k := 14) (x := "_law_script") (CX := fun _ => L2.CX0) rfl (by decide) (by kernel_rfl) ⟨rfl, by decide, by decide⟩ ?F (fun _ _ _ _ _ z => z)
    intro w mg fa h Y G hmg0
    obtain ⟨K, KX, c⟩ := Y
    have hmg : mg ("law" : PySem.Str) = some (.ref fa) := by
      have e : (HandSHeadRun.topDef (OpenLaw.row PySem.Challenge.rw_piercednames_k41_sketches_put_in).prog 31).name = ("law" : PySem.Str) := by kernel_rfl
      rw [← e]
      exact hmg0
    exact ⟨K, KX, Kx.all_facts KX G hmg c⟩
