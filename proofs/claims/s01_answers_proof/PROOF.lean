import PyProof.Rows.All
import Wide.All
import OpenK.AllK
import Wide.FinOn
import HandS.ForSpec
import HandS.Defaults
import HandS.Lambda
import HandS.HeadHook4
import PySem.Challenge.RW_nohiddenpaths_s01_answers
import KE.KStateDown
import KE.OsGo
import KE.HD4
import HandS.Head0
import HandS.Head1
import HandS.Head2
import HandS.HeadEnd
import HandS.HeadHook1
import HandS.HeadHook2
import HandS.HeadHook3
import HandS.Comp
import HandS.Iter
import HandS.Dict
import HandS.Nested
import HandS.SortOrd
import HandS.SortKw
import HandS.TupSets
import KE.KSortKey
import HandS.Keys
import KE.KMinKey
import HandS.EndTab
import Open.SpecLaws
import KE.OsHead
import HandS.WordsDict
import HandS.Walk
set_option Elab.async false
set_option linter.all false
set_option maxRecDepth 100000
set_option maxHeartbeats 4000000
/-! The mathematics, 1: what the program's steps make, against the specification's words. No library. -/
namespace Nhp
open Su201

/-! ### lists -/
theorem sorted_uniq {α : Type} {r : α → α → Prop} (irr : ∀ a, ¬ r a a) (asym : ∀ a b, r a b → ¬ r b a) {l m : List α} (h1 : l.Pairwise r) (h2 : m.Pairwise r) (hm : ∀ a, a ∈ l ↔ a ∈ m) : l = m := by
  have nd : ∀ {k : List α}, k.Pairwise r → k.Nodup := fun {k} h => h.imp fun {a b} hab => by intro e; subst e; exact irr _ hab
  have p : l.Perm m := (List.perm_ext_iff_of_nodup (nd h1) (nd h2)).mpr hm
  exact List.Perm.eq_of_pairwise (fun a b _ _ x y => absurd y (asym a b x)) h1 h2 p
theorem nodup_map_inj {α β : Type} {f : α → β} : ∀ {l : List α}, (l.map f).Nodup → ∀ x ∈ l, ∀ y ∈ l, f x = f y → x = y
  | [], _, x, hx, _, _, _ => by cases hx
  | a :: l, h, x, hx, y, hy, e => by
    rw [List.map_cons, List.nodup_cons] at h
    rcases List.mem_cons.mp hx with rfl | hx <;> rcases List.mem_cons.mp hy with rfl | hy
    · rfl
    · exact absurd (by rw [e]; exact List.mem_map_of_mem hy) h.1
    · exact absurd (by rw [← e]; exact List.mem_map_of_mem ‹_›) h.1
    · exact nodup_map_inj h.2 x hx y hy e
theorem nodup_of_map' {α β : Type} {f : α → β} {l : List α} (h : (l.map f).Nodup) : l.Nodup :=
  List.Pairwise.of_map f (fun _ _ hne e => hne (congrArg f e)) h

/-! ### the well-formed states -/
structure WfR (s : RouteServer) (x : Route) : Prop where
  ann : x.announcer < s.members.length
  pre : isPrefix x.address x.length = true
  len1 : 1 ≤ x.asPath.length
  len6 : x.asPath.length ≤ 6
  rng : ∀ n ∈ x.asPath, 1 ≤ n ∧ n ≤ 9999
def rkey (x : Route) : Nat × Nat × Nat := (x.announcer, x.address, x.length)
structure Wf (s : RouteServer) : Prop where
  m6 : s.members.length ≤ 6
  asns : (s.members.map (·.asn)).Nodup
  r20 : s.routes.length ≤ 20
  rt : ∀ x ∈ s.routes, WfR s x
  uniq : (s.routes.map rkey).Nodup
theorem isPrefix_iff {a l : Nat} : isPrefix a l = true ↔ l ≤ 8 ∧ a < 256 ∧ a % 2 ^ (8 - l) = 0 := by
  unfold isPrefix addressBits
  simp only [Bool.and_eq_true, decide_eq_true_eq, beq_iff_eq]
theorem wf_empty : Wf empty := ⟨by decide, by decide, by decide, (fun x h => nomatch h), by decide⟩
theorem member_at {s : RouteServer} {m : Nat} (h : m < s.members.length) : s.members[m]? = some (s.member m) := by
  unfold RouteServer.member
  rw [List.getD_eq_getElem?_getD, List.getElem?_eq_getElem h, Option.getD_some]
theorem asn_inj {s : RouteServer} (w : Wf s) {a b : Nat} (ha : a < s.members.length) (hb : b < s.members.length) (e : (s.member a).asn = (s.member b).asn) : a = b := by
  have h1 : (s.members.map (·.asn))[a]? = some (s.member a).asn := by rw [List.getElem?_map, member_at ha] <;> rfl
  have h2 : (s.members.map (·.asn))[b]? = some (s.member b).asn := by rw [List.getElem?_map, member_at hb] <;> rfl
  have hl : a < (s.members.map (·.asn)).length := by rw [List.length_map]; exact ha
  exact (List.getElem?_inj hl w.asns).mp (by rw [h1, h2, e])

/-! ### prefixes in order -/
def plt (x y : Nat × Nat) : Prop := x.1 < y.1 ∨ (x.1 = y.1 ∧ x.2 < y.2)
theorem plt_irr (a : Nat × Nat) : ¬ plt a a := by unfold plt; omega
theorem plt_asym (a b : Nat × Nat) (h : plt a b) : ¬ plt b a := by unfold plt at *; omega
theorem plt_tri (a b : Nat × Nat) (h : ¬ plt a b) (e : ¬ a = b) : plt b a := by
  unfold plt at *
  have e2 : ¬ (a.1 = b.1 ∧ a.2 = b.2) := fun q => e (Prod.ext q.1 q.2)
  omega
theorem plt_tr {a b c : Nat × Nat} (h : plt a b) (k : plt b c) : plt a c := by unfold plt at *; omega
theorem mem_insertPrefix {x z : Nat × Nat} : ∀ {l : List (Nat × Nat)}, z ∈ insertPrefix x l ↔ z = x ∨ z ∈ l
  | [] => by simp [insertPrefix]
  | y :: l => by
    unfold insertPrefix
    split
    · simp
    · split
      · rename_i e
        subst e
        simp
      · rw [List.mem_cons, mem_insertPrefix, List.mem_cons]
        exact ⟨fun h => by rcases h with h | h | h <;> simp [h], fun h => by rcases h with h | h | h <;> simp [h]⟩
theorem sorted_insertPrefix {x : Nat × Nat} : ∀ {l : List (Nat × Nat)}, l.Pairwise plt → (insertPrefix x l).Pairwise plt
  | [], _ => by simp [insertPrefix]
  | y :: l, h => by
    obtain ⟨h1, h2⟩ := List.pairwise_cons.mp h
    unfold insertPrefix
    split
    · rename_i c
      have c : plt x y := c
      refine List.pairwise_cons.mpr ⟨fun z hz => ?_, h⟩
      rcases List.mem_cons.mp hz with rfl | hz
      · exact c
      · exact plt_tr c (h1 z hz)
    · rename_i c
      have c : ¬ plt x y := c
      split
      · exact h
      · rename_i e
        refine List.pairwise_cons.mpr ⟨fun z hz => ?_, sorted_insertPrefix h2⟩
        rcases mem_insertPrefix.mp hz with rfl | hz
        · exact plt_tri _ _ c e
        · exact h1 z hz
theorem fold_prefixes : ∀ (rs : List Route) (acc : List (Nat × Nat)), acc.Pairwise plt →
    (rs.foldl (fun l x => insertPrefix (x.address, x.length) l) acc).Pairwise plt ∧ ∀ z, z ∈ rs.foldl (fun l x => insertPrefix (x.address, x.length) l) acc ↔ z ∈ acc ∨ z ∈ rs.map fun x => (x.address, x.length)
  | [], acc, h => ⟨h, fun z => by simp⟩
  | x :: rs, acc, h => by
    obtain ⟨k1, k2⟩ := fold_prefixes rs (insertPrefix (x.address, x.length) acc) (sorted_insertPrefix h)
    refine ⟨k1, fun z => ?_⟩
    rw [List.foldl_cons, k2 z, mem_insertPrefix, List.map_cons, List.mem_cons]
    exact ⟨fun q => by rcases q with (q | q) | q <;> simp [q], fun q => by rcases q with q | q | q <;> simp [q]⟩
theorem prefixes_sorted (s : RouteServer) : s.prefixes.Pairwise plt := (fold_prefixes s.routes [] List.Pairwise.nil).1
theorem mem_prefixes (s : RouteServer) (z : Nat × Nat) : z ∈ s.prefixes ↔ z ∈ s.routes.map fun x => (x.address, x.length) := by
  have h := (fold_prefixes s.routes [] List.Pairwise.nil).2 z
  unfold RouteServer.prefixes
  rw [h]
  simp
theorem prefixes_is (s : RouteServer) (l : List (Nat × Nat)) (h : l.Pairwise plt) (hm : ∀ z, z ∈ l ↔ z ∈ s.routes.map fun x => (x.address, x.length)) : l = s.prefixes :=
  sorted_uniq plt_irr plt_asym h (prefixes_sorted s) fun z => (hm z).trans (mem_prefixes s z).symm

/-! ### the eligible routes in order -/
/-- the rank as three numbers: the less, the better -/
def rk (s : RouteServer) (m : Nat) (x : Route) : Int × Int × Int := (-(s.preference m x.announcer : Int), (x.asPath.length : Int), ((s.member x.announcer).asn : Int))
def lex3 (p q : Int × Int × Int) : Bool := if p.1 = q.1 then (if p.2.1 = q.2.1 then decide (p.2.2 < q.2.2) else decide (p.2.1 < q.2.1)) else decide (p.1 < q.1)
theorem lex3_iff {p q : Int × Int × Int} : lex3 p q = true ↔ p.1 < q.1 ∨ (p.1 = q.1 ∧ (p.2.1 < q.2.1 ∨ (p.2.1 = q.2.1 ∧ p.2.2 < q.2.2))) := by
  unfold lex3
  split
  · split
    · rw [decide_eq_true_eq]; omega
    · rw [decide_eq_true_eq]; omega
  · rw [decide_eq_true_eq]; omega
theorem lex3_no {p q : Int × Int × Int} : lex3 p q = false ↔ ¬ (p.1 < q.1 ∨ (p.1 = q.1 ∧ (p.2.1 < q.2.1 ∨ (p.2.1 = q.2.1 ∧ p.2.2 < q.2.2)))) := by
  rw [← lex3_iff]
  cases lex3 p q <;> simp
theorem better_is (s : RouteServer) (m : Nat) (x y : Route) : s.isBetter m x y = lex3 (rk s m x) (rk s m y) := by
  rw [Bool.eq_iff_iff, lex3_iff]
  unfold RouteServer.isBetter rk
  simp only [Bool.or_eq_true, Bool.and_eq_true, decide_eq_true_eq, beq_iff_eq]
  omega
/-- not above -/
def nab (s : RouteServer) (m : Nat) (x y : Route) : Prop := s.isBetter m y x = false
theorem nab_tr {s : RouteServer} {m : Nat} {x y z : Route} (h1 : nab s m x y) (h2 : nab s m y z) : nab s m x z := by
  unfold nab at *
  rw [better_is, lex3_no] at *
  omega
theorem nab_of {s : RouteServer} {m : Nat} {x y : Route} (h : s.isBetter m x y = true) : nab s m x y := by
  unfold nab
  rw [better_is, lex3_iff] at h
  rw [better_is, lex3_no]
  omega
theorem perm_insertRanked (s : RouteServer) (m : Nat) (x : Route) : ∀ l : List Route, (s.insertRanked m x l).Perm (x :: l)
  | [] => List.Perm.refl _
  | y :: l => by
    unfold RouteServer.insertRanked
    split
    · exact List.Perm.refl _
    · exact (List.Perm.cons y (perm_insertRanked s m x l)).trans (List.Perm.swap x y l)
theorem sorted_insertRanked (s : RouteServer) (m : Nat) (x : Route) : ∀ l : List Route, l.Pairwise (nab s m) → (s.insertRanked m x l).Pairwise (nab s m)
  | [], _ => by unfold RouteServer.insertRanked; exact List.pairwise_singleton _ _
  | y :: l, h => by
    obtain ⟨h1, h2⟩ := List.pairwise_cons.mp h
    unfold RouteServer.insertRanked
    split
    · rename_i c
      refine List.pairwise_cons.mpr ⟨fun z hz => ?_, h⟩
      rcases List.mem_cons.mp hz with rfl | hz
      · exact nab_of c
      · exact nab_tr (nab_of c) (h1 z hz)
    · rename_i c
      refine List.pairwise_cons.mpr ⟨fun z hz => ?_, sorted_insertRanked s m x l h2⟩
      rcases List.mem_cons.mp ((perm_insertRanked s m x l).mem_iff.mp hz) with rfl | hz
      · unfold nab
        cases e : s.isBetter m z y
        · rfl
        · exact absurd e c
      · exact h1 z hz
theorem fold_ranked (s : RouteServer) (m : Nat) : ∀ (l acc : List Route), acc.Pairwise (nab s m) →
    (l.foldl (fun ranked x => s.insertRanked m x ranked) acc).Pairwise (nab s m) ∧ (l.foldl (fun ranked x => s.insertRanked m x ranked) acc).Perm (l ++ acc)
  | [], acc, h => ⟨h, List.Perm.refl _⟩
  | x :: l, acc, h => by
    obtain ⟨k1, k2⟩ := fold_ranked s m l (s.insertRanked m x acc) (sorted_insertRanked s m x acc h)
    exact ⟨k1, k2.trans ((List.Perm.append_left l (perm_insertRanked s m x acc)).trans List.perm_middle)⟩
/-- the routes of one prefix that the member may use, in the order of the list -/
def elig (s : RouteServer) (m a l : Nat) : List Route := (s.routes.filter fun x => x.address == a && x.length == l).filter fun x => s.isEligible m x
theorem elig_is (s : RouteServer) (m a l : Nat) : s.routes.filter (fun x => x.address == a && (x.length == l && s.isEligible m x)) = elig s m a l := by
  unfold elig
  rw [List.filter_filter]
  congr 1
  funext x
  cases x.address == a <;> cases x.length == l <;> cases s.isEligible m x <;> rfl
theorem elig_mem {s : RouteServer} {m a l : Nat} {x : Route} (h : x ∈ elig s m a l) : x ∈ s.routes ∧ x.address = a ∧ x.length = l ∧ s.isEligible m x = true := by
  unfold elig at h
  obtain ⟨h1, h2⟩ := List.mem_filter.mp h
  obtain ⟨h3, h4⟩ := List.mem_filter.mp h1
  simp only [Bool.and_eq_true, beq_iff_eq] at h4
  exact ⟨h3, h4.1, h4.2, h2⟩
theorem rkey_inj {s : RouteServer} (w : Wf s) {x y : Route} (hx : x ∈ s.routes) (hy : y ∈ s.routes) (e : rkey x = rkey y) : x = y := nodup_map_inj w.uniq x hx y hy e
theorem eligible_is {s : RouteServer} (w : Wf s) {m a l : Nat} {out : List Route} (hp : out.Perm (elig s m a l)) (hs : out.Pairwise (nab s m)) : out = s.eligibleRoutes m a l := by
  have k := fold_ranked s m (elig s m a l) [] List.Pairwise.nil
  unfold RouteServer.eligibleRoutes
  rw [elig_is]
  refine List.Perm.eq_of_pairwise (le := nab s m) (fun x y hx hy h1 h2 => ?_) hs k.1 (hp.trans (by have z := k.2.symm; rw [List.append_nil] at z; exact z))
  have hx := hp.mem_iff.mp hx
  have hy : y ∈ elig s m a l := by
    have z := k.2.mem_iff.mp hy
    rw [List.append_nil] at z
    exact z
  obtain ⟨x1, x2, x3, _⟩ := elig_mem hx
  obtain ⟨y1, y2, y3, _⟩ := elig_mem hy
  unfold nab at h1 h2
  rw [better_is, lex3_no] at h1 h2
  have e : (rk s m x).2.2 = (rk s m y).2.2 := by omega
  have e2 : (s.member x.announcer).asn = (s.member y.announcer).asn := by
    have e' : ((s.member x.announcer).asn : Int) = ((s.member y.announcer).asn : Int) := e
    omega
  have e3 := asn_inj w (w.rt x x1).ann (w.rt y y1).ann e2
  exact rkey_inj w x1 y1 (by unfold rkey; rw [e3, x2, x3, y2, y3])
theorem eligibleRoutes_mem {s : RouteServer} {m a l : Nat} {x : Route} (h : x ∈ s.eligibleRoutes m a l) : x ∈ elig s m a l := by
  have k := (fold_ranked s m (elig s m a l) [] List.Pairwise.nil).2
  unfold RouteServer.eligibleRoutes at h
  rw [elig_is] at h
  have z := k.mem_iff.mp h
  rw [List.append_nil] at z
  exact z
theorem table_mem {s : RouteServer} {m : Nat} {x : Route} (h : x ∈ s.routingTable m) : x ∈ s.routes := by
  unfold RouteServer.routingTable at h
  obtain ⟨y, _, e⟩ := List.mem_filterMap.mp h
  unfold RouteServer.bestRoute at e
  exact (elig_mem (eligibleRoutes_mem (List.mem_of_mem_head? e))).1
end Nhp
/-! The mathematics, 2: longest match, places of routes, well-formed states stay so, policies. -/
namespace Nhp
open Su201
theorem contains_is {a l x : Nat} (h : isPrefix a l = true) : (decide (a ≤ x) && decide (x < a + 2 ^ (8 - l))) = prefixContains a l x := by
  obtain ⟨h1, h2, h3⟩ := isPrefix_iff.mp h
  unfold prefixContains addressBits
  have hd : 0 < 2 ^ (8 - l) := Nat.pow_pos (by decide)
  generalize 2 ^ (8 - l) = d at *
  obtain ⟨q, rfl⟩ := Nat.dvd_of_mod_eq_zero h3
  rw [Nat.mul_div_cancel_left _ hd, Bool.eq_iff_iff, Bool.and_eq_true, decide_eq_true_eq, decide_eq_true_eq, beq_iff_eq]
  rw [Nat.div_eq_iff hd, Nat.mul_comm q d]
  omega
/-! ### the longest match -/
def lkStep (best : Option Route) (y : Route) : Option Route := match best with
  | none => some y
  | some z => if z.length < y.length then some y else some z
def hits (t : List Route) (x : Nat) : List Route := t.filter fun y => prefixContains y.address y.length x
theorem lookup_is (t : List Route) (x : Nat) : lookupIn t x = (hits t x).foldl lkStep none := by
  unfold hits
  rw [List.foldl_filter]
  rfl
theorem fold_post {a : Route} : ∀ {l : List Route}, (∀ y ∈ l, y.length ≤ a.length) → l.foldl lkStep (some a) = some a
  | [], _ => rfl
  | y :: l, h => by
    rw [List.foldl_cons]
    have e : lkStep (some a) y = some a := by
      show (if a.length < y.length then some y else some a) = some a
      rw [if_neg (by have := h y (List.mem_cons_self ..); omega)]
    rw [e]
    exact fold_post fun z hz => h z (List.mem_cons_of_mem _ hz)
theorem fold_pre {P : Route → Prop} : ∀ {l : List Route} {b : Option Route}, (∀ z, b = some z → P z) → (∀ y ∈ l, P y) → ∀ z, l.foldl lkStep b = some z → P z
  | [], _, hb, _, z, e => hb z e
  | y :: l, b, hb, h, z, e => by
    rw [List.foldl_cons] at e
    refine fold_pre (l := l) (b := lkStep b y) (fun w hw => ?_) (fun w hw => h w (List.mem_cons_of_mem _ hw)) z e
    unfold lkStep at hw
    split at hw
    · cases hw
      exact h _ (List.mem_cons_self ..)
    · split at hw
      · cases hw
        exact h _ (List.mem_cons_self ..)
      · cases hw
        exact hb _ rfl
theorem lookup_best {t : List Route} {x i : Nat} {a : Route} (hi : (hits t x)[i]? = some a) (hlt : ∀ (j : Nat) (y : Route), j < i → (hits t x)[j]? = some y → y.length < a.length) (hle : ∀ (j : Nat) (y : Route), (hits t x)[j]? = some y → y.length ≤ a.length) : lookupIn t x = some a := by
  rw [lookup_is]
  generalize hits t x = l at *
  have hil : i < l.length := (List.getElem?_eq_some_iff.mp hi).1
  have e : l = l.take i ++ a :: l.drop (i + 1) := by
    have e1 : l[i] = a := (List.getElem?_eq_some_iff.mp hi).2
    rw [← e1, List.getElem_cons_drop, List.take_append_drop]
  rw [e, List.foldl_append, List.foldl_cons]
  have e2 : lkStep ((l.take i).foldl lkStep none) a = some a := by
    cases q : (l.take i).foldl lkStep none with
    | none => rfl
    | some z =>
      have hz : z.length < a.length := fold_pre (P := fun z => z.length < a.length) (b := none) (fun z hz => by cases hz) (fun y hy => by
        obtain ⟨j, hj⟩ := List.mem_iff_getElem?.mp hy
        rw [List.getElem?_take] at hj
        split at hj
        · exact hlt j y ‹_› hj
        · cases hj) z q
      show (if z.length < a.length then some a else some z) = some a
      rw [if_pos hz]
  rw [e2]
  refine fold_post fun y hy => ?_
  obtain ⟨j, hj⟩ := List.mem_iff_getElem?.mp hy
  rw [List.getElem?_drop] at hj
  exact hle _ y hj
theorem lookup_none {t : List Route} {x : Nat} (h : hits t x = []) : lookupIn t x = none := by
  rw [lookup_is, h]
  rfl
theorem lookup_mem {t : List Route} {x : Nat} {a : Route} (h : lookupIn t x = some a) : a ∈ t := by
  rw [lookup_is] at h
  exact fold_pre (P := fun z => z ∈ t) (b := none) (fun z hz => by cases hz) (fun y hy => (List.mem_filter.mp hy).1) a h
/-! ### the place of a route -/
def hasKey (m a l : Nat) (x : Route) : Bool := x.announcer == m && (x.address == a && x.length == l)
theorem hasKey_iff {m a l : Nat} {x : Route} : hasKey m a l x = true ↔ rkey x = (m, a, l) := by
  unfold hasKey rkey
  simp only [Bool.and_eq_true, beq_iff_eq, Prod.mk.injEq]
theorem nodup_routes {s : RouteServer} (w : Wf s) : s.routes.Nodup := nodup_of_map' w.uniq
theorem find_none {s : RouteServer} {m a l : Nat} (h : ∀ x ∈ s.routes, hasKey m a l x = false) : s.findRoute m a l = none :=
  List.find?_eq_none.mpr fun x hx => by
    have z : (x.announcer == m && (x.address == a && x.length == l)) = false := h x hx
    rw [z]
    exact Bool.false_ne_true
theorem find_mem {s : RouteServer} (w : Wf s) {m a l : Nat} {x : Route} (hx : x ∈ s.routes) (h : hasKey m a l x = true) : s.findRoute m a l = some x := by
  cases e : s.findRoute m a l with
  | none =>
    have := List.find?_eq_none.mp e x hx
    exact absurd h this
  | some y =>
    have h1 : hasKey m a l y = true := List.find?_some e
    have h2 : y ∈ s.routes := List.mem_of_find?_eq_some e
    rw [rkey_inj w hx h2 (by rw [hasKey_iff.mp h, hasKey_iff.mp h1])]
theorem map_set {α : Type} [DecidableEq α] {y r : α} : ∀ {l : List α} {i : Nat}, l.Nodup → l[i]? = some y → l.map (fun z => if z = y then r else z) = l.set i r
  | [], i, _, h => by simp at h
  | x :: l, 0, h, e => by
    have ex : x = y := Option.some.inj e
    subst ex
    rw [List.map_cons, if_pos rfl, List.set_cons_zero]
    congr 1
    conv => rhs; rw [← List.map_id l]
    refine List.map_congr_left fun z hz => ?_
    rw [if_neg (fun q : z = x => (List.nodup_cons.mp h).1 (by rw [← q]; exact hz))]
    rfl
  | x :: l, i + 1, h, e => by
    have e' : l[i]? = some y := e
    have hx : x ≠ y := fun q => (List.nodup_cons.mp h).1 (q ▸ List.mem_of_getElem? e')
    rw [List.map_cons, if_neg hx, List.set_cons_succ, map_set (List.nodup_cons.mp h).2 e']
theorem filter_erase {α : Type} [DecidableEq α] {y : α} : ∀ {l : List α} {i : Nat}, l.Nodup → l[i]? = some y → l.filter (fun z => z != y) = l.eraseIdx i
  | [], i, _, h => by simp at h
  | x :: l, 0, h, e => by
    have ex : x = y := Option.some.inj e
    subst ex
    rw [List.filter_cons_of_neg (by simp), List.eraseIdx_cons_zero, List.filter_eq_self]
    intro z hz
    exact bne_iff_ne.mpr fun q => (List.nodup_cons.mp h).1 (q ▸ hz)
  | x :: l, i + 1, h, e => by
    have e' : l[i]? = some y := e
    have hx : x ≠ y := fun q => (List.nodup_cons.mp h).1 (q ▸ List.mem_of_getElem? e')
    rw [List.filter_cons, if_pos (bne_iff_ne.mpr hx), List.eraseIdx_cons_succ, filter_erase (List.nodup_cons.mp h).2 e']
/-! ### well-formed states stay well-formed -/
theorem wfR_of {s t : RouteServer} (h : s.members.length ≤ t.members.length) {x : Route} (w : WfR s x) : WfR t x := ⟨Nat.lt_of_lt_of_le w.ann h, w.pre, w.len1, w.len6, w.rng⟩
theorem wfR_rs {s : RouteServer} {rs : List Route} {x : Route} (w : WfR s x) : WfR { s with routes := rs } x := ⟨w.ann, w.pre, w.len1, w.len6, w.rng⟩
theorem wf_sub {s : RouteServer} (w : Wf s) {rs : List Route} (h : rs.Sublist s.routes) : Wf { s with routes := rs } :=
  ⟨w.m6, w.asns, Nat.le_trans h.length_le w.r20, fun x hx => wfR_rs (w.rt x (h.subset hx)), (h.map rkey).nodup w.uniq⟩
theorem wf_mem {s : RouteServer} (w : Wf s) {ms : List Member} (h : ms.map (·.asn) = s.members.map (·.asn)) : Wf { s with members := ms } := by
  have hl : ms.length = s.members.length := by
    have := congrArg List.length h
    rwa [List.length_map, List.length_map] at this
  exact ⟨by rw [hl]; exact w.m6, by show (ms.map (·.asn)).Nodup; rw [h]; exact w.asns, w.r20, fun x hx => wfR_of (by rw [hl]; exact Nat.le_refl _) (w.rt x hx), w.uniq⟩
theorem wf_setMember {s : RouteServer} (w : Wf s) {m : Nat} {x : Member} (h : x.asn = (s.member m).asn) : Wf (s.setMember m x) := by
  refine wf_mem w ?_
  rw [List.map_set]
  refine List.ext_getElem? fun i => ?_
  rw [List.getElem?_set]
  split
  · rename_i e
    subst e
    split
    · rename_i hl
      rw [List.length_map] at hl
      rw [List.getElem?_map, member_at hl, h] <;> rfl
    · rename_i hl
      rw [List.getElem?_eq_none (by omega)]
  · rfl
theorem wf_addMember {s : RouteServer} (w : Wf s) {asn : Nat} (h1 : s.members.any (fun x => x.asn == asn) = false) (h2 : s.members.length < 6) : Wf { s with members := s.members ++ [⟨asn, [], [], []⟩] } := by
  refine ⟨by show (s.members ++ _).length ≤ 6; rw [List.length_append]; simp; omega, ?_, w.r20, fun x hx => wfR_of (by show _ ≤ (s.members ++ _).length; rw [List.length_append]; omega) (w.rt x hx), w.uniq⟩
  show ((s.members ++ _).map (·.asn)).Nodup
  rw [List.map_append]
  refine List.nodup_append.mpr ⟨w.asns, by simp, fun a ha b hb e => ?_⟩
  simp only [List.map_cons, List.map_nil, List.mem_singleton] at hb
  obtain ⟨x, hx, rfl⟩ := List.mem_map.mp ha
  have := List.any_eq_false.mp h1 x hx
  exact this (beq_iff_eq.mpr (e.trans hb))
theorem isAsPath_iff {s : RouteServer} {m : Nat} {l : List Nat} (h : s.isAsPath m l = true) : 1 ≤ l.length ∧ l.length ≤ 6 ∧ ∀ n ∈ l, 1 ≤ n ∧ n ≤ 9999 := by
  unfold RouteServer.isAsPath at h
  simp only [Bool.and_eq_true, decide_eq_true_eq, List.all_eq_true] at h
  exact ⟨h.1, h.2.1, h.2.2.1⟩
theorem wf_add {s : RouteServer} (w : Wf s) {r : Route} (hr : WfR s r) (hl : s.routes.length < 20) (hn : ∀ x ∈ s.routes, rkey x ≠ rkey r) : Wf { s with routes := s.routes ++ [r] } := by
  refine ⟨w.m6, w.asns, by show (s.routes ++ _).length ≤ 20; rw [List.length_append]; simp; omega, fun x hx => ?_, ?_⟩
  · have hx : x ∈ s.routes ++ [r] := hx
    rcases List.mem_append.mp hx with hx | hx
    · exact wfR_rs (w.rt x hx)
    · rw [List.mem_singleton.mp hx]
      exact wfR_rs hr
  · show ((s.routes ++ [r]).map rkey).Nodup
    rw [List.map_append]
    refine List.nodup_append.mpr ⟨w.uniq, by simp, fun a ha b hb e => ?_⟩
    simp only [List.map_cons, List.map_nil, List.mem_singleton] at hb
    obtain ⟨x, hx, rfl⟩ := List.mem_map.mp ha
    exact hn x hx (e.trans hb)
theorem wf_set {s : RouteServer} (w : Wf s) {r y : Route} {i : Nat} (hr : WfR s r) (hi : s.routes[i]? = some y) (hk : rkey r = rkey y) : Wf { s with routes := s.routes.set i r } := by
  refine ⟨w.m6, w.asns, by show (s.routes.set i r).length ≤ 20; rw [List.length_set]; exact w.r20, fun x hx => ?_, ?_⟩
  · have hx : x ∈ s.routes.set i r := hx
    rcases List.mem_or_eq_of_mem_set hx with hx | rfl
    · exact wfR_rs (w.rt x hx)
    · exact wfR_rs hr
  · show ((s.routes.set i r).map rkey).Nodup
    have e : (s.routes.set i r).map rkey = s.routes.map rkey := by
      rw [List.map_set]
      refine List.ext_getElem? fun j => ?_
      rw [List.getElem?_set]
      split
      · rename_i e
        subst e
        split
        · rw [List.getElem?_map, hi, hk] <;> rfl
        · rename_i hl
          rw [List.getElem?_eq_none (by omega)]
      · rfl
    rw [e]
    exact w.uniq
theorem find_some {s : RouteServer} {m a l : Nat} {y : Route} (h : s.findRoute m a l = some y) : y ∈ s.routes ∧ hasKey m a l y = true := ⟨List.mem_of_find?_eq_some h, List.find?_some h⟩
theorem wf_execute {s : RouteServer} (w : Wf s) (op : Operation) : Wf (execute s op).1 := by
  cases op with
  | reset => exact wf_empty
  | addMember asn =>
    unfold execute
    dsimp only
    split
    · exact w
    split
    · exact w
    split
    · exact w
    · rename_i h1 h2 h3
      unfold maxMembers at h3
      exact wf_addMember w (by cases q : s.members.any (fun x => x.asn == asn); rfl; exact absurd q h2) (by omega)
  | announce m a l p =>
    unfold execute
    dsimp only
    split
    · exact w
    split
    · exact w
    rename_i h1 h2
    have hm : m < s.members.length := by
      cases q : s.hasMember m
      · exact absurd q h1
      · exact of_decide_eq_true q
    have hp : isPrefix a l = true := by cases q : isPrefix a l; exact absurd (.inl q) h2; rfl
    have hq : s.isAsPath m p = true := by cases q : s.isAsPath m p; exact absurd (.inr q) h2; rfl
    have hq := isAsPath_iff hq
    have hr : WfR s ⟨m, a, l, p⟩ := ⟨hm, hp, hq.1, hq.2.1, hq.2.2⟩
    split
    · rename_i y e
      obtain ⟨hy, hk⟩ := find_some e
      obtain ⟨i, hi⟩ := List.mem_iff_getElem?.mp hy
      show Wf { s with routes := s.routes.map fun z => if z = y then ⟨m, a, l, p⟩ else z }
      rw [map_set (nodup_routes w) hi]
      exact wf_set w hr hi (hasKey_iff.mp hk).symm
    · rename_i e
      split
      · exact w
      · rename_i hl
        unfold maxRoutes at hl
        refine wf_add w hr (by omega) fun x hx q => ?_
        have := List.find?_eq_none.mp e x hx
        exact this (show hasKey m a l x = true from hasKey_iff.mpr q)
  | withdraw m a l =>
    unfold execute
    dsimp only
    split
    · exact w
    split
    · exact w
    split
    · exact w
    · exact wf_sub w (List.filter_sublist)
  | setExport m p d =>
    unfold execute
    dsimp only
    split
    · exact w
    split
    · exact w
    exact wf_setMember w rfl
  | setImport m p d =>
    unfold execute
    dsimp only
    split
    · exact w
    split
    · exact w
    exact wf_setMember w rfl
  | setPreference m p d =>
    unfold execute
    dsimp only
    split
    · exact w
    split
    · exact w
    exact wf_setMember w rfl
  | withdrawAll m =>
    unfold execute
    dsimp only
    split
    · exact w
    exact wf_sub w (List.filter_sublist)
  | _ =>
    unfold execute
    dsimp only
    repeat' split
    all_goals exact w
/-! ### policies -/
theorem contains_setDenied {l : List Nat} {x d n : Nat} (hd : d ≤ 1) : boolToNat ((setDenied l x d).contains n) = if n = x then d else boolToNat (l.contains n) := by
  have hb : ∀ b : Bool, boolToNat b = if b = true then 1 else 0 := fun b => rfl
  have key : (setDenied l x d).contains n = if n = x then decide (d = 1) else l.contains n := by
    rw [Bool.eq_iff_iff, List.contains_iff_mem]
    unfold setDenied
    by_cases c : d = 1
    · rw [if_pos c]
      by_cases h : l.contains x = true
      · rw [if_pos h]
        have hx := List.contains_iff_mem.mp h
        by_cases e : n = x
        · rw [if_pos e, e]
          simp [hx, c]
        · rw [if_neg e, List.contains_iff_mem]
      · rw [if_neg h]
        by_cases e : n = x
        · rw [if_pos e, e]
          simp [c]
        · rw [if_neg e, List.contains_iff_mem]
          simp [e]
    · rw [if_neg c]
      by_cases e : n = x
      · rw [if_pos e, e]
        simp [c]
      · rw [if_neg e, List.contains_iff_mem]
        simp [e]
  rw [key]
  by_cases e : n = x
  · rw [if_pos e, if_pos e, hb]
    by_cases c : d = 1
    · rw [decide_eq_true c, if_pos rfl, c]
    · rw [decide_eq_false c, if_neg Bool.false_ne_true]
      omega
  · rw [if_neg e, if_neg e]
theorem find_put {l : List (Nat × Nat)} {x d n : Nat} : ((((x, d) :: l.filter fun y : Nat × Nat => y.1 != x).find? fun y : Nat × Nat => y.1 == n).map fun y : Nat × Nat => y.2).getD 5 = if n = x then d else ((l.find? fun y => y.1 == n).map fun y => y.2).getD 5 := by
  rw [List.find?_cons]
  by_cases e : n = x
  · subst e
    rw [if_pos rfl, beq_self_eq_true]
    rfl
  · have e' : (x == n) = false := beq_eq_false_iff_ne.mpr fun q => e q.symm
    rw [if_neg e]
    show ((match (x == n) with | true => some (x, d) | false => (l.filter fun y : Nat × Nat => y.1 != x).find? fun y : Nat × Nat => y.1 == n).map fun y : Nat × Nat => y.2).getD 5 = _
    rw [e', List.find?_filter]
    have z : (fun a : Nat × Nat => decide ((a.1 != x) = true ∧ (a.1 == n) = true)) = fun y : Nat × Nat => y.1 == n := by
      funext y
      rw [Bool.eq_iff_iff, decide_eq_true_eq]
      refine ⟨fun q => q.2, fun q => ⟨bne_iff_ne.mpr fun w => e (by rw [← w, beq_iff_eq.mp q]), q⟩⟩
    rw [z]
end Nhp
/-! The mathematics, 3: the list of calls. -/
namespace Nhp
open Su201
def cntL : List Nat := [0, 1, 3, 3, 3, 3, 3, 3, 3, 1, 2, 1, 1, 3, 1, 0, 1, 1]
def cnt (i : Nat) : Nat := cntL.getD i 0
theorem shape_counts {p : Int} {n k : Nat} (h : PySu201.shape p = some (n, k)) : ∃ i : Nat, i < 18 ∧ p = (i : Int) ∧ cnt i = n ∧ k = if i = 2 then 1 else 0 := by
  have fin : ∀ i : Nat, i < 18 → p = (i : Int) → PySu201.shape (i : Int) = some (cnt i, if i = 2 then 1 else 0) → ∃ i : Nat, i < 18 ∧ p = (i : Int) ∧ cnt i = n ∧ k = if i = 2 then 1 else 0 := fun i hi e q => by
    rw [e, q] at h
    have h := Option.some.inj h
    exact ⟨i, hi, e, congrArg Prod.fst h, (congrArg Prod.snd h).symm⟩
  have all : ∀ i : Nat, i < 18 → PySu201.shape (i : Int) = some (cnt i, if i = 2 then 1 else 0) := by decide
  by_cases c : 0 ≤ p ∧ p < 18
  · exact fin p.toNat (by omega) (by omega) (all _ (by omega))
  · exfalso
    unfold PySu201.shape at h
    have ne : ∀ i : Int, 0 ≤ i → i < 18 → p ≠ i := fun i h1 h2 e => c ⟨by omega, by omega⟩
    simp only [ne 0 (by decide) (by decide), ne 1 (by decide) (by decide), ne 2 (by decide) (by decide), ne 3 (by decide) (by decide), ne 4 (by decide) (by decide), ne 5 (by decide) (by decide), ne 6 (by decide) (by decide), ne 7 (by decide) (by decide), ne 8 (by decide) (by decide), ne 9 (by decide) (by decide), ne 10 (by decide) (by decide), ne 11 (by decide) (by decide), ne 12 (by decide) (by decide), ne 13 (by decide) (by decide), ne 14 (by decide) (by decide), ne 15 (by decide) (by decide), ne 16 (by decide) (by decide), ne 17 (by decide) (by decide), if_false] at h
    cases h
/-- how one call stands at the list's front: its place, its numbers, its row, the rest -/
inductive CallAt (l : List Int) (c : List (List Int)) (t : List Int) : Prop
  | plain (i : Nat) (r : List Int) (hi : i < 18) (h2 : i ≠ 2) (e : l = (i : Int) :: r) (hn : cnt i ≤ r.length) (hc : c = [(i : Int) :: r.take (cnt i)]) (ht : t = r.drop (cnt i))
  | row (r r2 : List Int) (m : Nat) (e : l = 2 :: r) (hn : 3 ≤ r.length) (er : r.drop 3 = (m : Int) :: r2) (hm : m ≤ r2.length) (hc : c = [2 :: r.take 3, r2.take m]) (ht : t = r2.drop m)
theorem calls_nil {f : Nat} {rest : List (List (List Int))} (h : PyFlat.calls PySu201.shape f [] = some rest) : rest = [] := by
  cases f <;> exact (Option.some.inj h).symm
theorem calls_step {f : Nat} {p : Int} {r : List Int} {rest : List (List (List Int))} (h : PyFlat.calls PySu201.shape f (p :: r) = some rest) :
    ∃ f' c cs t, rest = c :: cs ∧ PyFlat.calls PySu201.shape f' t = some cs ∧ CallAt (p :: r) c t := by
  cases f with
  | zero => cases h
  | succ f =>
    unfold PyFlat.calls at h
    cases hc : PyFlat.call PySu201.shape (p :: r) with
    | none => rw [hc] at h; cases h
    | some ct =>
      obtain ⟨c, t⟩ := ct
      rw [hc] at h
      dsimp only at h
      cases hs : PyFlat.calls PySu201.shape f t with
      | none => rw [hs] at h; cases h
      | some cs =>
        rw [hs] at h
        refine ⟨f, c, cs, t, (Option.some.inj h).symm, hs, ?_⟩
        unfold PyFlat.call at hc
        cases hp : PySu201.shape p with
        | none => simp only [hp] at hc; cases hc
        | some nk =>
          obtain ⟨n, k⟩ := nk
          simp only [hp] at hc
          obtain ⟨i, hi, rfl, rfl, rfl⟩ := shape_counts hp
          split at hc
          · cases hc
          · rename_i hn
            by_cases h2 : i = 2
            · subst h2
              rw [if_pos rfl] at hc
              have e3 : cnt 2 = 3 := rfl
              rw [e3] at hc hn
              cases hd : r.drop 3 with
              | nil => rw [hd] at hc; cases hc
              | cons m r2 =>
                rw [hd] at hc
                simp only [PyFlat.rows, PyFlat.row] at hc
                by_cases cm : 0 ≤ m ∧ m.toNat ≤ r2.length
                · rw [if_pos cm] at hc
                  simp only [Option.some.injEq, Prod.mk.injEq] at hc
                  refine .row r r2 m.toNat rfl (by omega) ?_ cm.2 hc.1.symm hc.2.symm
                  rw [hd, Int.toNat_of_nonneg cm.1]
                · rw [if_neg cm] at hc
                  cases hc
            · rw [if_neg h2] at hc
              simp only [PyFlat.rows, Option.some.injEq, Prod.mk.injEq] at hc
              exact .plain i r hi h2 rfl (by omega) hc.1.symm hc.2.symm
/-! ### calls of whole numbers -/
structure GoodC (c : List (List Int)) (i : Nat) (ns ps : List Nat) : Prop where
  hi : i < 18
  len : ns.length = cnt i
  c : c = if i = 2 then [(i : Int) :: ns.map (fun (n : Nat) => (n : Int)), ps.map fun (n : Nat) => (n : Int)] else [(i : Int) :: ns.map fun (n : Nat) => (n : Int)]
  noP : i ≠ 2 → ps = []
  le : ps.length ≤ 8
theorem nats_of : ∀ {xs : List Int}, (∀ x ∈ xs, 0 ≤ x) → (xs.map Int.toNat).map (fun n : Nat => (n : Int)) = xs
  | [], _ => rfl
  | x :: xs, h => by
    rw [List.map_cons, List.map_cons, nats_of fun y hy => h y (List.mem_cons_of_mem _ hy), Int.toNat_of_nonneg (h x (List.mem_cons_self ..))]
theorem each_nonneg : ∀ {b : List (Int × Int)} {xs : List Int}, PyInside.each b xs = true → (∀ q ∈ b, q.1 = 0) → b.length = xs.length → ∀ x ∈ xs, 0 ≤ x
  | [], [], _, _, _, x, hx => by cases hx
  | [], _ :: _, _, _, h, _, _ => by cases h
  | _ :: _, [], _, _, h, _, _ => by cases h
  | (lo, hi) :: b, y :: xs, h, h0, hl, x, hx => by
    have h : (PyInside.within lo hi y && PyInside.each b xs) = true := h
    rw [Bool.and_eq_true] at h
    have z : lo = 0 := h0 (lo, hi) (List.mem_cons_self ..)
    rcases List.mem_cons.mp hx with rfl | hx
    · have := h.1
      unfold PyInside.within at this
      simp only [Bool.and_eq_true, decide_eq_true_eq] at this
      omega
    · exact each_nonneg h.2 (fun q hq => h0 q (List.mem_cons_of_mem _ hq)) (Nat.succ.inj hl) x hx
theorem good_of {l : List Int} {c : List (List Int)} {t : List Int} (h : CallAt l c t) (hb : PyInside.call PySu201.bound c = true) : ∃ i ns ps, GoodC c i ns ps := by
  have bl : ∀ i : Nat, i < 18 → (PySu201.bound (i : Int)).1.length = cnt i ∧ ∀ q ∈ (PySu201.bound (i : Int)).1, q.1 = 0 := by decide
  cases h with
  | plain i r hi h2 e hn hc ht =>
    subst hc
    unfold PyInside.call at hb
    simp only [Bool.and_eq_true] at hb
    have nn := each_nonneg hb.1 (bl i hi).2 (by rw [(bl i hi).1, List.length_take]; omega)
    exact ⟨i, (r.take (cnt i)).map Int.toNat, [], hi, by rw [List.length_map, List.length_take]; omega, by rw [if_neg h2, nats_of nn], fun _ => rfl, by decide⟩
  | row r r2 m e hn er hm hc ht =>
    subst hc
    unfold PyInside.call at hb
    simp only [Bool.and_eq_true] at hb
    have nn := each_nonneg hb.1 (bl 2 (by decide)).2 (by rw [List.length_take]; show 3 = min 3 r.length; omega)
    have h2 : PyInside.lists [(0, 4294967295, 0, 8)] [r2.take m] = true := hb.2
    simp only [PyInside.lists, Bool.and_eq_true, decide_eq_true_eq, List.all_eq_true] at h2
    obtain ⟨⟨⟨_, h8⟩, h3⟩, _⟩ := h2
    have n2 : ∀ x ∈ r2.take m, 0 ≤ x := fun x hx => by
      have := h3 x hx
      unfold PyInside.within at this
      simp only [Bool.and_eq_true, decide_eq_true_eq] at this
      exact this.1
    exact ⟨2, (r.take 3).map Int.toNat, (r2.take m).map Int.toNat, by decide, by rw [List.length_map, List.length_take]; show min 3 r.length = 3; omega, by rw [if_pos rfl, nats_of nn, nats_of n2]; rfl, fun q => absurd rfl q, by rw [List.length_map]; exact h8⟩
def opOf (i : Nat) (ns ps : List Nat) : Operation := match i, ns with
  | 1, [a] => .addMember a
  | 2, [m, a, l] => .announce m a l ps
  | 3, [m, a, l] => .withdraw m a l
  | 4, [m, p, d] => .setExport m p d
  | 5, [m, p, d] => .setImport m p d
  | 6, [m, p, d] => .setPreference m p d
  | 7, [m, a, l] => .bestRoute m a l
  | 8, [m, a, l] => .eligibleRoutes m a l
  | 9, [m] => .routingTable m
  | 10, [m, x] => .lookup m x
  | 11, [m] => .reachableAddresses m
  | 12, [m] => .usersOf m
  | 13, [m, a, l] => .previewWithdraw m a l
  | 14, [m] => .withdrawAll m
  | 15, [] => .announcedPrefixes
  | 16, [m] => .memberRoutes m
  | 17, [m] => .memberPolicy m
  | _, _ => .reset
theorem toNat_map (ps : List Nat) : (ps.map fun (n : Nat) => (n : Int)).map Int.toNat = ps := by
  rw [List.map_map]
  exact List.map_id ps
theorem callOf_good {c : List (List Int)} {i : Nat} {ns ps : List Nat} (g : GoodC c i ns ps) : Su201Neutral.callOf ((PySu201.whole c).headD []) = some (opOf i ns ps) := by
  obtain ⟨hi, hl, rfl, hp, _⟩ := g
  by_cases h2 : i = 2
  · subst h2
    have hl : ns.length = 3 := hl
    obtain ⟨a, b, d, rfl⟩ : ∃ a b d, ns = [a, b, d] := by
      rcases ns with _ | ⟨a, _ | ⟨b, _ | ⟨d, _ | ⟨e, ns⟩⟩⟩⟩ <;> simp at hl
      exact ⟨a, b, d, rfl⟩
    rw [if_pos rfl]
    show some (Operation.announce a b d ((ps.map fun (n : Nat) => (n : Int)).map Int.toNat)) = some (Operation.announce a b d ps)
    rw [toNat_map]
  · rw [if_neg h2]
    have hi' : i = 0 ∨ i = 1 ∨ i = 3 ∨ i = 4 ∨ i = 5 ∨ i = 6 ∨ i = 7 ∨ i = 8 ∨ i = 9 ∨ i = 10 ∨ i = 11 ∨ i = 12 ∨ i = 13 ∨ i = 14 ∨ i = 15 ∨ i = 16 ∨ i = 17 := by omega
    rcases hi' with rfl | rfl | rfl | rfl | rfl | rfl | rfl | rfl | rfl | rfl | rfl | rfl | rfl | rfl | rfl | rfl | rfl <;>
      rcases ns with _ | ⟨a, _ | ⟨b, _ | ⟨d, _ | ⟨e, ns⟩⟩⟩⟩ <;> first | rfl | (exfalso; simp [cnt, cntL] at hl)
def resI (r : Result) : List Int := r.value :: Su201Neutral.outs r.fields
theorem step_good {c : List (List Int)} {i : Nat} {ns ps : List Nat} (g : GoodC c i ns ps) (σ : Option RouteServer) : Su201Neutral.step σ ((PySu201.whole c).headD []) = ((Su201.step σ (opOf i ns ps)).1, resI (Su201.step σ (opOf i ns ps)).2) := by
  unfold Su201Neutral.step
  rw [callOf_good g]
  rfl
def outOf (σ : Option RouteServer) (cs : List (List (List Int))) : List Int := PyFlat.told (PyFlat.played (fun s c => Su201Neutral.step s (c.headD [])) σ (cs.map PySu201.whole))
theorem outOf_nil (σ : Option RouteServer) : outOf σ [] = [] := rfl
theorem outOf_cons {c : List (List Int)} {i : Nat} {ns ps : List Nat} (g : GoodC c i ns ps) (σ : Option RouteServer) (cs : List (List (List Int))) :
    outOf σ (c :: cs) = (((resI (Su201.step σ (opOf i ns ps)).2).length : Int) :: resI (Su201.step σ (opOf i ns ps)).2) ++ outOf (Su201.step σ (opOf i ns ps)).1 cs := by
  unfold outOf
  rw [List.map_cons]
  show PyFlat.told ((Su201Neutral.step σ ((PySu201.whole c).headD [])).2 :: PyFlat.played _ (Su201Neutral.step σ ((PySu201.whole c).headD [])).1 _) = _
  rw [step_good g]
  rfl
/-- what the row asks, put in words of the list -/
theorem asked_is {l : List Int} (h : PySu201.answers_asked l = true) : ∃ raw, PyFlat.calls PySu201.shape l.length l = some raw ∧ (∀ c ∈ raw, PyInside.call PySu201.bound c = true) ∧ PySu201.answers l = outOf none raw ∧ (outOf none raw).length ≤ 10000000 := by
  unfold PySu201.answers_asked at h
  cases e : PyFlat.calls PySu201.shape l.length l with
  | none => rw [e] at h; cases h
  | some raw =>
    rw [e] at h
    simp only [Bool.and_eq_true] at h
    obtain ⟨⟨⟨⟨_, _⟩, h3⟩, _⟩, h5⟩ := h
    have ea : PySu201.answers l = outOf none raw := by
      unfold PySu201.answers PySu201.calls
      rw [e]
      rfl
    refine ⟨raw, rfl, List.all_eq_true.mp h3, ea, ?_⟩
    rw [← ea]
    exact of_decide_eq_true h5
end Nhp
namespace Nhp
theorem asked_len {l : List Int} (h : PySu201.answers_asked l = true) {raw : List (List (List Int))} (hr : PyFlat.calls PySu201.shape l.length l = some raw) : raw.length ≤ 400 := by
  unfold PySu201.answers_asked at h
  rw [hr] at h
  simp only [Bool.and_eq_true] at h
  exact of_decide_eq_true h.1.1.1.2
end Nhp
/-! The program's text by places; what the head tells of it, by names. Printed by wip/tools/gen_top.py -/
namespace Nhp
open PySem PySem.Spec PyProof.Rows L2
def top (i : Nat) : Stmt := PySem.Challenge.pw_nohiddenpaths_s01_answers.main.body.getD i (.Pass ⟨0, 0, 0, 0⟩)
abbrev s_is_asn : Stmt := top 5
abbrev s_is_address : Stmt := top 6
abbrev s_size_of_prefix : Stmt := top 7
abbrev s_is_prefix : Stmt := top 8
abbrev s_is_as_path : Stmt := top 9
abbrev s_are_equal : Stmt := top 27
abbrev s_changed_since : Stmt := top 28
abbrev s_add_member : Stmt := top 29
abbrev s_announce : Stmt := top 30
abbrev s_withdraw : Stmt := top 31
abbrev s_withdraw_all : Stmt := top 32
abbrev s_policy_refusal : Stmt := top 33
abbrev s_set_export : Stmt := top 34
abbrev s_set_import : Stmt := top 35
abbrev s_set_preference : Stmt := top 36
abbrev s_split_calls : Stmt := top 57
abbrev s_best_route : Stmt := top 59
abbrev s_eligible_routes : Stmt := top 60
abbrev s_routing_table : Stmt := top 61
abbrev s_longest_match : Stmt := top 62
abbrev s_lookup : Stmt := top 63
abbrev s_reachable_addresses : Stmt := top 64
abbrev s_users_of : Stmt := top 65
abbrev s_preview_withdraw : Stmt := top 66
abbrev s_announced_prefixes : Stmt := top 67
abbrev s_member_routes : Stmt := top 68
abbrev s_member_policy : Stmt := top 69
abbrev s_perform : Stmt := top 71
abbrev s_answers : Stmt := top 72
abbrev s_Member_init : Stmt := inClass (top 19) 0
abbrev s_Member_export_denied : Stmt := inClass (top 19) 1
abbrev s_Member_import_denied : Stmt := inClass (top 19) 2
abbrev s_Member_preference_for : Stmt := inClass (top 19) 3
abbrev s_Route_init : Stmt := inClass (top 20) 0
abbrev s_Route_is_for : Stmt := inClass (top 20) 1
abbrev s_Route_contains : Stmt := inClass (top 20) 2
abbrev s_Route_compared_by : Stmt := inClass (top 20) 3
abbrev s_RouteServer_init : Stmt := inClass (top 21) 0
abbrev s_RouteServer_with_own_routes : Stmt := inClass (top 21) 1
abbrev s_RouteServer_has_member : Stmt := inClass (top 21) 2
abbrev s_RouteServer_has_asn : Stmt := inClass (top 21) 3
abbrev s_RouteServer_place_of_route : Stmt := inClass (top 21) 4
abbrev s_RouteServer_is_eligible : Stmt := inClass (top 21) 5
abbrev s_RouteServer_rank : Stmt := inClass (top 21) 6
abbrev s_RouteServer_ranked_routes : Stmt := inClass (top 21) 7
abbrev s_RouteServer_prefixes_in_order : Stmt := inClass (top 21) 8
abbrev s_RouteServer_routing_table : Stmt := inClass (top 21) 9
abbrev s_RouteServer_routing_tables : Stmt := inClass (top 21) 10
def d_is_asn : He.DefD := ⟨("is_asn", none), "is_asn", "is_asn", defArgs s_is_asn, defBody s_is_asn, defScope s_is_asn, [], []⟩
def d_is_address : He.DefD := ⟨("is_address", none), "is_address", "is_address", defArgs s_is_address, defBody s_is_address, defScope s_is_address, [], []⟩
def d_size_of_prefix : He.DefD := ⟨("size_of_prefix", none), "size_of_prefix", "size_of_prefix", defArgs s_size_of_prefix, defBody s_size_of_prefix, defScope s_size_of_prefix, [], []⟩
def d_is_prefix : He.DefD := ⟨("is_prefix", none), "is_prefix", "is_prefix", defArgs s_is_prefix, defBody s_is_prefix, defScope s_is_prefix, [], []⟩
def d_is_as_path : He.DefD := ⟨("is_as_path", none), "is_as_path", "is_as_path", defArgs s_is_as_path, defBody s_is_as_path, defScope s_is_as_path, [], []⟩
def d_are_equal : He.DefD := ⟨("are_equal", none), "are_equal", "are_equal", defArgs s_are_equal, defBody s_are_equal, defScope s_are_equal, [], []⟩
def d_changed_since : He.DefD := ⟨("changed_since", none), "changed_since", "changed_since", defArgs s_changed_since, defBody s_changed_since, defScope s_changed_since, [], []⟩
def d_add_member : He.DefD := ⟨("add_member", none), "add_member", "add_member", defArgs s_add_member, defBody s_add_member, defScope s_add_member, [], []⟩
def d_announce : He.DefD := ⟨("announce", none), "announce", "announce", defArgs s_announce, defBody s_announce, defScope s_announce, [], []⟩
def d_withdraw : He.DefD := ⟨("withdraw", none), "withdraw", "withdraw", defArgs s_withdraw, defBody s_withdraw, defScope s_withdraw, [], []⟩
def d_withdraw_all : He.DefD := ⟨("withdraw_all", none), "withdraw_all", "withdraw_all", defArgs s_withdraw_all, defBody s_withdraw_all, defScope s_withdraw_all, [], []⟩
def d_policy_refusal : He.DefD := ⟨("policy_refusal", none), "policy_refusal", "policy_refusal", defArgs s_policy_refusal, defBody s_policy_refusal, defScope s_policy_refusal, [], []⟩
def d_set_export : He.DefD := ⟨("set_export", none), "set_export", "set_export", defArgs s_set_export, defBody s_set_export, defScope s_set_export, [], []⟩
def d_set_import : He.DefD := ⟨("set_import", none), "set_import", "set_import", defArgs s_set_import, defBody s_set_import, defScope s_set_import, [], []⟩
def d_set_preference : He.DefD := ⟨("set_preference", none), "set_preference", "set_preference", defArgs s_set_preference, defBody s_set_preference, defScope s_set_preference, [], []⟩
def d_split_calls : He.DefD := ⟨("split_calls", none), "split_calls", "split_calls", defArgs s_split_calls, defBody s_split_calls, defScope s_split_calls, [], []⟩
def d_best_route : He.DefD := ⟨("best_route", none), "best_route", "best_route", defArgs s_best_route, defBody s_best_route, defScope s_best_route, [], []⟩
def d_eligible_routes : He.DefD := ⟨("eligible_routes", none), "eligible_routes", "eligible_routes", defArgs s_eligible_routes, defBody s_eligible_routes, defScope s_eligible_routes, [], []⟩
def d_routing_table : He.DefD := ⟨("routing_table", none), "routing_table", "routing_table", defArgs s_routing_table, defBody s_routing_table, defScope s_routing_table, [], []⟩
def d_longest_match : He.DefD := ⟨("longest_match", none), "longest_match", "longest_match", defArgs s_longest_match, defBody s_longest_match, defScope s_longest_match, [], []⟩
def d_lookup : He.DefD := ⟨("lookup", none), "lookup", "lookup", defArgs s_lookup, defBody s_lookup, defScope s_lookup, [], []⟩
def d_reachable_addresses : He.DefD := ⟨("reachable_addresses", none), "reachable_addresses", "reachable_addresses", defArgs s_reachable_addresses, defBody s_reachable_addresses, defScope s_reachable_addresses, [], []⟩
def d_users_of : He.DefD := ⟨("users_of", none), "users_of", "users_of", defArgs s_users_of, defBody s_users_of, defScope s_users_of, [], []⟩
def d_preview_withdraw : He.DefD := ⟨("preview_withdraw", none), "preview_withdraw", "preview_withdraw", defArgs s_preview_withdraw, defBody s_preview_withdraw, defScope s_preview_withdraw, [], []⟩
def d_announced_prefixes : He.DefD := ⟨("announced_prefixes", none), "announced_prefixes", "announced_prefixes", defArgs s_announced_prefixes, defBody s_announced_prefixes, defScope s_announced_prefixes, [], []⟩
def d_member_routes : He.DefD := ⟨("member_routes", none), "member_routes", "member_routes", defArgs s_member_routes, defBody s_member_routes, defScope s_member_routes, [], []⟩
def d_member_policy : He.DefD := ⟨("member_policy", none), "member_policy", "member_policy", defArgs s_member_policy, defBody s_member_policy, defScope s_member_policy, [], []⟩
def d_perform : He.DefD := ⟨("perform", none), "perform", "perform", defArgs s_perform, defBody s_perform, defScope s_perform, [], []⟩
def d_answers : He.DefD := ⟨("answers", none), "answers", "answers", defArgs s_answers, defBody s_answers, defScope s_answers, [], []⟩
def d_Member_init : He.DefD := ⟨("Member", some "__init__"), "__init__", "Member.__init__", defArgs s_Member_init, defBody s_Member_init, defScope s_Member_init, [], []⟩
def d_Member_export_denied : He.DefD := ⟨("Member", some "export_denied"), "export_denied", "Member.export_denied", defArgs s_Member_export_denied, defBody s_Member_export_denied, defScope s_Member_export_denied, [], []⟩
def d_Member_import_denied : He.DefD := ⟨("Member", some "import_denied"), "import_denied", "Member.import_denied", defArgs s_Member_import_denied, defBody s_Member_import_denied, defScope s_Member_import_denied, [], []⟩
def d_Member_preference_for : He.DefD := ⟨("Member", some "preference_for"), "preference_for", "Member.preference_for", defArgs s_Member_preference_for, defBody s_Member_preference_for, defScope s_Member_preference_for, [], []⟩
def d_Route_init : He.DefD := ⟨("Route", some "__init__"), "__init__", "Route.__init__", defArgs s_Route_init, defBody s_Route_init, defScope s_Route_init, [], []⟩
def d_Route_is_for : He.DefD := ⟨("Route", some "is_for"), "is_for", "Route.is_for", defArgs s_Route_is_for, defBody s_Route_is_for, defScope s_Route_is_for, [], []⟩
def d_Route_contains : He.DefD := ⟨("Route", some "contains"), "contains", "Route.contains", defArgs s_Route_contains, defBody s_Route_contains, defScope s_Route_contains, [], []⟩
def d_Route_compared_by : He.DefD := ⟨("Route", some "compared_by"), "compared_by", "Route.compared_by", defArgs s_Route_compared_by, defBody s_Route_compared_by, defScope s_Route_compared_by, [], []⟩
def d_RouteServer_init : He.DefD := ⟨("RouteServer", some "__init__"), "__init__", "RouteServer.__init__", defArgs s_RouteServer_init, defBody s_RouteServer_init, defScope s_RouteServer_init, [], []⟩
def d_RouteServer_with_own_routes : He.DefD := ⟨("RouteServer", some "with_own_routes"), "with_own_routes", "RouteServer.with_own_routes", defArgs s_RouteServer_with_own_routes, defBody s_RouteServer_with_own_routes, defScope s_RouteServer_with_own_routes, [], []⟩
def d_RouteServer_has_member : He.DefD := ⟨("RouteServer", some "has_member"), "has_member", "RouteServer.has_member", defArgs s_RouteServer_has_member, defBody s_RouteServer_has_member, defScope s_RouteServer_has_member, [], []⟩
def d_RouteServer_has_asn : He.DefD := ⟨("RouteServer", some "has_asn"), "has_asn", "RouteServer.has_asn", defArgs s_RouteServer_has_asn, defBody s_RouteServer_has_asn, defScope s_RouteServer_has_asn, [], []⟩
def d_RouteServer_place_of_route : He.DefD := ⟨("RouteServer", some "place_of_route"), "place_of_route", "RouteServer.place_of_route", defArgs s_RouteServer_place_of_route, defBody s_RouteServer_place_of_route, defScope s_RouteServer_place_of_route, [], []⟩
def d_RouteServer_is_eligible : He.DefD := ⟨("RouteServer", some "is_eligible"), "is_eligible", "RouteServer.is_eligible", defArgs s_RouteServer_is_eligible, defBody s_RouteServer_is_eligible, defScope s_RouteServer_is_eligible, [], []⟩
def d_RouteServer_rank : He.DefD := ⟨("RouteServer", some "rank"), "rank", "RouteServer.rank", defArgs s_RouteServer_rank, defBody s_RouteServer_rank, defScope s_RouteServer_rank, [], []⟩
def d_RouteServer_ranked_routes : He.DefD := ⟨("RouteServer", some "ranked_routes"), "ranked_routes", "RouteServer.ranked_routes", defArgs s_RouteServer_ranked_routes, defBody s_RouteServer_ranked_routes, defScope s_RouteServer_ranked_routes, [], []⟩
def d_RouteServer_prefixes_in_order : He.DefD := ⟨("RouteServer", some "prefixes_in_order"), "prefixes_in_order", "RouteServer.prefixes_in_order", defArgs s_RouteServer_prefixes_in_order, defBody s_RouteServer_prefixes_in_order, defScope s_RouteServer_prefixes_in_order, [], []⟩
def d_RouteServer_routing_table : He.DefD := ⟨("RouteServer", some "routing_table"), "routing_table", "RouteServer.routing_table", defArgs s_RouteServer_routing_table, defBody s_RouteServer_routing_table, defScope s_RouteServer_routing_table, [], []⟩
def d_RouteServer_routing_tables : He.DefD := ⟨("RouteServer", some "routing_tables"), "routing_tables", "RouteServer.routing_tables", defArgs s_RouteServer_routing_tables, defBody s_RouteServer_routing_tables, defScope s_RouteServer_routing_tables, [], []⟩
def fas0 : List He.Fa := [.glo "is_asn", .glo "is_address", .glo "size_of_prefix", .glo "is_prefix", .glo "is_as_path", .glo "are_equal", .glo "changed_since", .glo "add_member", .glo "announce", .glo "withdraw", .glo "withdraw_all", .glo "policy_refusal", .glo "set_export", .glo "set_import", .glo "set_preference", .glo "split_calls", .glo "best_route", .glo "eligible_routes", .glo "routing_table", .glo "longest_match", .glo "lookup", .glo "reachable_addresses", .glo "users_of", .glo "preview_withdraw", .glo "announced_prefixes"]
def fas1 : List He.Fa := [.glo "member_routes", .glo "member_policy", .glo "perform", .glo "answers", .glo "Member", .cls "Member", .mkr "Member", .noat "Member" "asn", .noat "Member" "export_denials", .noat "Member" "import_denials", .noat "Member" "preferences", .glo "Route", .cls "Route", .mkr "Route", .noat "Route" "announcer", .noat "Route" "address", .noat "Route" "length", .noat "Route" "as_path", .glo "RouteServer", .cls "RouteServer", .mkr "RouteServer", .noat "RouteServer" "members", .noat "RouteServer" "routes", .meth "Member" "export_denied", .meth "Member" "import_denied"]
def fas2 : List He.Fa := [.meth "Member" "preference_for", .meth "Route" "is_for", .meth "Route" "contains", .meth "Route" "compared_by", .meth "RouteServer" "with_own_routes", .meth "RouteServer" "has_member", .meth "RouteServer" "has_asn", .meth "RouteServer" "place_of_route", .meth "RouteServer" "is_eligible", .meth "RouteServer" "rank", .meth "RouteServer" "ranked_routes", .meth "RouteServer" "prefixes_in_order", .meth "RouteServer" "routing_table", .meth "RouteServer" "routing_tables", .int "MAX_ASN" 9999, .int "MAX_PATH_LENGTH" 6, .int "ADDRESS_BITS" 8, .int "ADDRESS_COUNT" 256, .int "NO_MEMBER" (-2), .int "NO_ROUTE" (-6), .int "NO_SERVER" (-11), .int "ASN_IN_USE" (-17), .int "INVALID" (-22), .int "LIMIT_REACHED" (-28), .int "NO_MATCH" (-33)]
def fas3 : List He.Fa := [.int "INITIAL_PREFERENCE" 5, .int "MAX_MEMBERS" 6, .int "MAX_ROUTES" 20, .int "MAX_DENIED" 1, .int "MAX_PREFERENCE" 9, .int "RESET" 0, .int "ADD_MEMBER" 1, .int "ANNOUNCE" 2, .int "WITHDRAW" 3, .int "SET_EXPORT" 4, .int "SET_IMPORT" 5, .int "SET_PREFERENCE" 6, .int "BEST_ROUTE" 7, .int "ELIGIBLE_ROUTES" 8, .int "ROUTING_TABLE" 9, .int "LOOKUP" 10, .int "REACHABLE_ADDRESSES" 11, .int "USERS_OF" 12, .int "PREVIEW_WITHDRAW" 13, .int "WITHDRAW_ALL" 14, .int "ANNOUNCED_PREFIXES" 15, .int "MEMBER_ROUTES" 16, .int "MEMBER_POLICY" 17, .free "len", .free "set"]
def fas4 : List He.Fa := [.free "sorted", .free "all", .free "enumerate", .free "range", .free "max", .free "list", .free "KeyError", .glo "ARGUMENT_COUNTS"]
def fas : List He.Fa := fas0 ++ (fas1 ++ (fas2 ++ (fas3 ++ (fas4))))
def fns0 : List He.DefD := [d_is_asn, d_is_address, d_size_of_prefix, d_is_prefix, d_is_as_path, d_are_equal, d_changed_since, d_add_member, d_announce, d_withdraw, d_withdraw_all, d_policy_refusal, d_set_export, d_set_import, d_set_preference, d_split_calls, d_best_route, d_eligible_routes, d_routing_table, d_longest_match, d_lookup, d_reachable_addresses, d_users_of, d_preview_withdraw, d_announced_prefixes]
def fns1 : List He.DefD := [d_member_routes, d_member_policy, d_perform, d_answers, d_Member_init, d_Member_export_denied, d_Member_import_denied, d_Member_preference_for, d_Route_init, d_Route_is_for, d_Route_contains, d_Route_compared_by, d_RouteServer_init, d_RouteServer_with_own_routes, d_RouteServer_has_member, d_RouteServer_has_asn, d_RouteServer_place_of_route, d_RouteServer_is_eligible, d_RouteServer_rank, d_RouteServer_ranked_routes, d_RouteServer_prefixes_in_order, d_RouteServer_routing_table, d_RouteServer_routing_tables]
def fns : List He.DefD := fns0 ++ (fns1)
def names0 : List PySem.Str := ["MAX_ASN", "MAX_PATH_LENGTH", "ADDRESS_BITS", "ADDRESS_COUNT", "is_asn", "is_address", "size_of_prefix", "is_prefix", "is_as_path", "NO_MEMBER", "NO_ROUTE", "NO_SERVER", "ASN_IN_USE", "INVALID", "LIMIT_REACHED", "NO_MATCH", "INITIAL_PREFERENCE", "Member", "Route", "RouteServer", "MAX_MEMBERS", "MAX_ROUTES", "MAX_DENIED", "MAX_PREFERENCE", "are_equal"]
def names1 : List PySem.Str := ["changed_since", "add_member", "announce", "withdraw", "withdraw_all", "policy_refusal", "set_export", "set_import", "set_preference", "RESET", "ADD_MEMBER", "ANNOUNCE", "WITHDRAW", "SET_EXPORT", "SET_IMPORT", "SET_PREFERENCE", "BEST_ROUTE", "ELIGIBLE_ROUTES", "ROUTING_TABLE", "LOOKUP", "REACHABLE_ADDRESSES", "USERS_OF", "PREVIEW_WITHDRAW", "WITHDRAW_ALL", "ANNOUNCED_PREFIXES"]
def names2 : List PySem.Str := ["MEMBER_ROUTES", "MEMBER_POLICY", "ARGUMENT_COUNTS", "split_calls", "best_route", "eligible_routes", "routing_table", "longest_match", "lookup", "reachable_addresses", "users_of", "preview_withdraw", "announced_prefixes", "member_routes", "member_policy", "perform"]
def names : List PySem.Str := names0 ++ (names1 ++ (names2))
def tp1 : He.Defn := ("RouteServer", some "ranked_routes")
def tp2 : He.Defn := ("longest_match", none)
def tf : List He.Defn := [tp1, tp2]
def counts : List Int := [0, 1, 3, 3, 3, 3, 3, 3, 3, 1, 2, 1, 1, 3, 1, 0, 1, 1]
def ex (K : PySem.W.Frag) : Bool := He.tupB K "ARGUMENT_COUNTS" (counts.map He.Dv.int) && decide ((He.cT K tp1).2 ≠ (He.cT K tp2).2)
/-- what the head tells of the text, by names -/
structure Txt (K : PySem.W.Frag) (mg : Str → Option Value) : Prop where
  g_is_asn : mg "is_asn" = some (.ref (He.ga K "is_asn"))
  g_is_address : mg "is_address" = some (.ref (He.ga K "is_address"))
  g_size_of_prefix : mg "size_of_prefix" = some (.ref (He.ga K "size_of_prefix"))
  g_is_prefix : mg "is_prefix" = some (.ref (He.ga K "is_prefix"))
  g_is_as_path : mg "is_as_path" = some (.ref (He.ga K "is_as_path"))
  g_are_equal : mg "are_equal" = some (.ref (He.ga K "are_equal"))
  g_changed_since : mg "changed_since" = some (.ref (He.ga K "changed_since"))
  g_add_member : mg "add_member" = some (.ref (He.ga K "add_member"))
  g_announce : mg "announce" = some (.ref (He.ga K "announce"))
  g_withdraw : mg "withdraw" = some (.ref (He.ga K "withdraw"))
  g_withdraw_all : mg "withdraw_all" = some (.ref (He.ga K "withdraw_all"))
  g_policy_refusal : mg "policy_refusal" = some (.ref (He.ga K "policy_refusal"))
  g_set_export : mg "set_export" = some (.ref (He.ga K "set_export"))
  g_set_import : mg "set_import" = some (.ref (He.ga K "set_import"))
  g_set_preference : mg "set_preference" = some (.ref (He.ga K "set_preference"))
  g_split_calls : mg "split_calls" = some (.ref (He.ga K "split_calls"))
  g_best_route : mg "best_route" = some (.ref (He.ga K "best_route"))
  g_eligible_routes : mg "eligible_routes" = some (.ref (He.ga K "eligible_routes"))
  g_routing_table : mg "routing_table" = some (.ref (He.ga K "routing_table"))
  g_longest_match : mg "longest_match" = some (.ref (He.ga K "longest_match"))
  g_lookup : mg "lookup" = some (.ref (He.ga K "lookup"))
  g_reachable_addresses : mg "reachable_addresses" = some (.ref (He.ga K "reachable_addresses"))
  g_users_of : mg "users_of" = some (.ref (He.ga K "users_of"))
  g_preview_withdraw : mg "preview_withdraw" = some (.ref (He.ga K "preview_withdraw"))
  g_announced_prefixes : mg "announced_prefixes" = some (.ref (He.ga K "announced_prefixes"))
  g_member_routes : mg "member_routes" = some (.ref (He.ga K "member_routes"))
  g_member_policy : mg "member_policy" = some (.ref (He.ga K "member_policy"))
  g_perform : mg "perform" = some (.ref (He.ga K "perform"))
  g_answers : mg "answers" = some (.ref (He.ga K "answers"))
  g_Member : mg "Member" = some (.ref (He.ga K "Member"))
  c_Member : Cls K (He.ga K "Member")
  k_Member : Mk K (He.ga K "Member") (He.ma K (He.ga K "Member") "__init__")
  a_Member_asn : NoAttr K (He.ga K "Member") "asn"
  a_Member_export_denials : NoAttr K (He.ga K "Member") "export_denials"
  a_Member_import_denials : NoAttr K (He.ga K "Member") "import_denials"
  a_Member_preferences : NoAttr K (He.ga K "Member") "preferences"
  g_Route : mg "Route" = some (.ref (He.ga K "Route"))
  c_Route : Cls K (He.ga K "Route")
  k_Route : Mk K (He.ga K "Route") (He.ma K (He.ga K "Route") "__init__")
  a_Route_announcer : NoAttr K (He.ga K "Route") "announcer"
  a_Route_address : NoAttr K (He.ga K "Route") "address"
  a_Route_length : NoAttr K (He.ga K "Route") "length"
  a_Route_as_path : NoAttr K (He.ga K "Route") "as_path"
  g_RouteServer : mg "RouteServer" = some (.ref (He.ga K "RouteServer"))
  c_RouteServer : Cls K (He.ga K "RouteServer")
  k_RouteServer : Mk K (He.ga K "RouteServer") (He.ma K (He.ga K "RouteServer") "__init__")
  a_RouteServer_members : NoAttr K (He.ga K "RouteServer") "members"
  a_RouteServer_routes : NoAttr K (He.ga K "RouteServer") "routes"
  m_Member_export_denied : Meth K (He.ga K "Member") "export_denied" (He.ma K (He.ga K "Member") "export_denied")
  m_Member_import_denied : Meth K (He.ga K "Member") "import_denied" (He.ma K (He.ga K "Member") "import_denied")
  m_Member_preference_for : Meth K (He.ga K "Member") "preference_for" (He.ma K (He.ga K "Member") "preference_for")
  m_Route_is_for : Meth K (He.ga K "Route") "is_for" (He.ma K (He.ga K "Route") "is_for")
  m_Route_contains : Meth K (He.ga K "Route") "contains" (He.ma K (He.ga K "Route") "contains")
  m_Route_compared_by : Meth K (He.ga K "Route") "compared_by" (He.ma K (He.ga K "Route") "compared_by")
  m_RouteServer_with_own_routes : Meth K (He.ga K "RouteServer") "with_own_routes" (He.ma K (He.ga K "RouteServer") "with_own_routes")
  m_RouteServer_has_member : Meth K (He.ga K "RouteServer") "has_member" (He.ma K (He.ga K "RouteServer") "has_member")
  m_RouteServer_has_asn : Meth K (He.ga K "RouteServer") "has_asn" (He.ma K (He.ga K "RouteServer") "has_asn")
  m_RouteServer_place_of_route : Meth K (He.ga K "RouteServer") "place_of_route" (He.ma K (He.ga K "RouteServer") "place_of_route")
  m_RouteServer_is_eligible : Meth K (He.ga K "RouteServer") "is_eligible" (He.ma K (He.ga K "RouteServer") "is_eligible")
  m_RouteServer_rank : Meth K (He.ga K "RouteServer") "rank" (He.ma K (He.ga K "RouteServer") "rank")
  m_RouteServer_ranked_routes : Meth K (He.ga K "RouteServer") "ranked_routes" (He.ma K (He.ga K "RouteServer") "ranked_routes")
  m_RouteServer_prefixes_in_order : Meth K (He.ga K "RouteServer") "prefixes_in_order" (He.ma K (He.ga K "RouteServer") "prefixes_in_order")
  m_RouteServer_routing_table : Meth K (He.ga K "RouteServer") "routing_table" (He.ma K (He.ga K "RouteServer") "routing_table")
  m_RouteServer_routing_tables : Meth K (He.ga K "RouteServer") "routing_tables" (He.ma K (He.ga K "RouteServer") "routing_tables")
  i_MAX_ASN : ∃ t, mg "MAX_ASN" = some (.int 9999 t)
  i_MAX_PATH_LENGTH : ∃ t, mg "MAX_PATH_LENGTH" = some (.int 6 t)
  i_ADDRESS_BITS : ∃ t, mg "ADDRESS_BITS" = some (.int 8 t)
  i_ADDRESS_COUNT : ∃ t, mg "ADDRESS_COUNT" = some (.int 256 t)
  i_NO_MEMBER : ∃ t, mg "NO_MEMBER" = some (.int (-2) t)
  i_NO_ROUTE : ∃ t, mg "NO_ROUTE" = some (.int (-6) t)
  i_NO_SERVER : ∃ t, mg "NO_SERVER" = some (.int (-11) t)
  i_ASN_IN_USE : ∃ t, mg "ASN_IN_USE" = some (.int (-17) t)
  i_INVALID : ∃ t, mg "INVALID" = some (.int (-22) t)
  i_LIMIT_REACHED : ∃ t, mg "LIMIT_REACHED" = some (.int (-28) t)
  i_NO_MATCH : ∃ t, mg "NO_MATCH" = some (.int (-33) t)
  i_INITIAL_PREFERENCE : ∃ t, mg "INITIAL_PREFERENCE" = some (.int 5 t)
  i_MAX_MEMBERS : ∃ t, mg "MAX_MEMBERS" = some (.int 6 t)
  i_MAX_ROUTES : ∃ t, mg "MAX_ROUTES" = some (.int 20 t)
  i_MAX_DENIED : ∃ t, mg "MAX_DENIED" = some (.int 1 t)
  i_MAX_PREFERENCE : ∃ t, mg "MAX_PREFERENCE" = some (.int 9 t)
  i_RESET : ∃ t, mg "RESET" = some (.int 0 t)
  i_ADD_MEMBER : ∃ t, mg "ADD_MEMBER" = some (.int 1 t)
  i_ANNOUNCE : ∃ t, mg "ANNOUNCE" = some (.int 2 t)
  i_WITHDRAW : ∃ t, mg "WITHDRAW" = some (.int 3 t)
  i_SET_EXPORT : ∃ t, mg "SET_EXPORT" = some (.int 4 t)
  i_SET_IMPORT : ∃ t, mg "SET_IMPORT" = some (.int 5 t)
  i_SET_PREFERENCE : ∃ t, mg "SET_PREFERENCE" = some (.int 6 t)
  i_BEST_ROUTE : ∃ t, mg "BEST_ROUTE" = some (.int 7 t)
  i_ELIGIBLE_ROUTES : ∃ t, mg "ELIGIBLE_ROUTES" = some (.int 8 t)
  i_ROUTING_TABLE : ∃ t, mg "ROUTING_TABLE" = some (.int 9 t)
  i_LOOKUP : ∃ t, mg "LOOKUP" = some (.int 10 t)
  i_REACHABLE_ADDRESSES : ∃ t, mg "REACHABLE_ADDRESSES" = some (.int 11 t)
  i_USERS_OF : ∃ t, mg "USERS_OF" = some (.int 12 t)
  i_PREVIEW_WITHDRAW : ∃ t, mg "PREVIEW_WITHDRAW" = some (.int 13 t)
  i_WITHDRAW_ALL : ∃ t, mg "WITHDRAW_ALL" = some (.int 14 t)
  i_ANNOUNCED_PREFIXES : ∃ t, mg "ANNOUNCED_PREFIXES" = some (.int 15 t)
  i_MEMBER_ROUTES : ∃ t, mg "MEMBER_ROUTES" = some (.int 16 t)
  i_MEMBER_POLICY : ∃ t, mg "MEMBER_POLICY" = some (.int 17 t)
  n_len : mg "len" = none
  n_set : mg "set" = none
  n_sorted : mg "sorted" = none
  n_all : mg "all" = none
  n_enumerate : mg "enumerate" = none
  n_range : mg "range" = none
  n_max : mg "max" = none
  n_list : mg "list" = none
  n_KeyError : mg "KeyError" = none
  g_ARGUMENT_COUNTS : mg "ARGUMENT_COUNTS" = some (.ref (He.ga K "ARGUMENT_COUNTS"))
  d_is_asn : ∃ fd, FunD K d_is_asn.name d_is_asn.qual d_is_asn.params d_is_asn.body d_is_asn.scope [] [] (He.fAd K d_is_asn.at_) fd
  d_is_address : ∃ fd, FunD K d_is_address.name d_is_address.qual d_is_address.params d_is_address.body d_is_address.scope [] [] (He.fAd K d_is_address.at_) fd
  d_size_of_prefix : ∃ fd, FunD K d_size_of_prefix.name d_size_of_prefix.qual d_size_of_prefix.params d_size_of_prefix.body d_size_of_prefix.scope [] [] (He.fAd K d_size_of_prefix.at_) fd
  d_is_prefix : ∃ fd, FunD K d_is_prefix.name d_is_prefix.qual d_is_prefix.params d_is_prefix.body d_is_prefix.scope [] [] (He.fAd K d_is_prefix.at_) fd
  d_is_as_path : ∃ fd, FunD K d_is_as_path.name d_is_as_path.qual d_is_as_path.params d_is_as_path.body d_is_as_path.scope [] [] (He.fAd K d_is_as_path.at_) fd
  d_are_equal : ∃ fd, FunD K d_are_equal.name d_are_equal.qual d_are_equal.params d_are_equal.body d_are_equal.scope [] [] (He.fAd K d_are_equal.at_) fd
  d_changed_since : ∃ fd, FunD K d_changed_since.name d_changed_since.qual d_changed_since.params d_changed_since.body d_changed_since.scope [] [] (He.fAd K d_changed_since.at_) fd
  d_add_member : ∃ fd, FunD K d_add_member.name d_add_member.qual d_add_member.params d_add_member.body d_add_member.scope [] [] (He.fAd K d_add_member.at_) fd
  d_announce : ∃ fd, FunD K d_announce.name d_announce.qual d_announce.params d_announce.body d_announce.scope [] [] (He.fAd K d_announce.at_) fd
  d_withdraw : ∃ fd, FunD K d_withdraw.name d_withdraw.qual d_withdraw.params d_withdraw.body d_withdraw.scope [] [] (He.fAd K d_withdraw.at_) fd
  d_withdraw_all : ∃ fd, FunD K d_withdraw_all.name d_withdraw_all.qual d_withdraw_all.params d_withdraw_all.body d_withdraw_all.scope [] [] (He.fAd K d_withdraw_all.at_) fd
  d_policy_refusal : ∃ fd, FunD K d_policy_refusal.name d_policy_refusal.qual d_policy_refusal.params d_policy_refusal.body d_policy_refusal.scope [] [] (He.fAd K d_policy_refusal.at_) fd
  d_set_export : ∃ fd, FunD K d_set_export.name d_set_export.qual d_set_export.params d_set_export.body d_set_export.scope [] [] (He.fAd K d_set_export.at_) fd
  d_set_import : ∃ fd, FunD K d_set_import.name d_set_import.qual d_set_import.params d_set_import.body d_set_import.scope [] [] (He.fAd K d_set_import.at_) fd
  d_set_preference : ∃ fd, FunD K d_set_preference.name d_set_preference.qual d_set_preference.params d_set_preference.body d_set_preference.scope [] [] (He.fAd K d_set_preference.at_) fd
  d_split_calls : ∃ fd, FunD K d_split_calls.name d_split_calls.qual d_split_calls.params d_split_calls.body d_split_calls.scope [] [] (He.fAd K d_split_calls.at_) fd
  d_best_route : ∃ fd, FunD K d_best_route.name d_best_route.qual d_best_route.params d_best_route.body d_best_route.scope [] [] (He.fAd K d_best_route.at_) fd
  d_eligible_routes : ∃ fd, FunD K d_eligible_routes.name d_eligible_routes.qual d_eligible_routes.params d_eligible_routes.body d_eligible_routes.scope [] [] (He.fAd K d_eligible_routes.at_) fd
  d_routing_table : ∃ fd, FunD K d_routing_table.name d_routing_table.qual d_routing_table.params d_routing_table.body d_routing_table.scope [] [] (He.fAd K d_routing_table.at_) fd
  d_longest_match : ∃ fd, FunD K d_longest_match.name d_longest_match.qual d_longest_match.params d_longest_match.body d_longest_match.scope [] [] (He.fAd K d_longest_match.at_) fd
  d_lookup : ∃ fd, FunD K d_lookup.name d_lookup.qual d_lookup.params d_lookup.body d_lookup.scope [] [] (He.fAd K d_lookup.at_) fd
  d_reachable_addresses : ∃ fd, FunD K d_reachable_addresses.name d_reachable_addresses.qual d_reachable_addresses.params d_reachable_addresses.body d_reachable_addresses.scope [] [] (He.fAd K d_reachable_addresses.at_) fd
  d_users_of : ∃ fd, FunD K d_users_of.name d_users_of.qual d_users_of.params d_users_of.body d_users_of.scope [] [] (He.fAd K d_users_of.at_) fd
  d_preview_withdraw : ∃ fd, FunD K d_preview_withdraw.name d_preview_withdraw.qual d_preview_withdraw.params d_preview_withdraw.body d_preview_withdraw.scope [] [] (He.fAd K d_preview_withdraw.at_) fd
  d_announced_prefixes : ∃ fd, FunD K d_announced_prefixes.name d_announced_prefixes.qual d_announced_prefixes.params d_announced_prefixes.body d_announced_prefixes.scope [] [] (He.fAd K d_announced_prefixes.at_) fd
  d_member_routes : ∃ fd, FunD K d_member_routes.name d_member_routes.qual d_member_routes.params d_member_routes.body d_member_routes.scope [] [] (He.fAd K d_member_routes.at_) fd
  d_member_policy : ∃ fd, FunD K d_member_policy.name d_member_policy.qual d_member_policy.params d_member_policy.body d_member_policy.scope [] [] (He.fAd K d_member_policy.at_) fd
  d_perform : ∃ fd, FunD K d_perform.name d_perform.qual d_perform.params d_perform.body d_perform.scope [] [] (He.fAd K d_perform.at_) fd
  d_answers : ∃ fd, FunD K d_answers.name d_answers.qual d_answers.params d_answers.body d_answers.scope [] [] (He.fAd K d_answers.at_) fd
  d_Member_init : ∃ fd, FunD K d_Member_init.name d_Member_init.qual d_Member_init.params d_Member_init.body d_Member_init.scope [] [] (He.fAd K d_Member_init.at_) fd
  d_Member_export_denied : ∃ fd, FunD K d_Member_export_denied.name d_Member_export_denied.qual d_Member_export_denied.params d_Member_export_denied.body d_Member_export_denied.scope [] [] (He.fAd K d_Member_export_denied.at_) fd
  d_Member_import_denied : ∃ fd, FunD K d_Member_import_denied.name d_Member_import_denied.qual d_Member_import_denied.params d_Member_import_denied.body d_Member_import_denied.scope [] [] (He.fAd K d_Member_import_denied.at_) fd
  d_Member_preference_for : ∃ fd, FunD K d_Member_preference_for.name d_Member_preference_for.qual d_Member_preference_for.params d_Member_preference_for.body d_Member_preference_for.scope [] [] (He.fAd K d_Member_preference_for.at_) fd
  d_Route_init : ∃ fd, FunD K d_Route_init.name d_Route_init.qual d_Route_init.params d_Route_init.body d_Route_init.scope [] [] (He.fAd K d_Route_init.at_) fd
  d_Route_is_for : ∃ fd, FunD K d_Route_is_for.name d_Route_is_for.qual d_Route_is_for.params d_Route_is_for.body d_Route_is_for.scope [] [] (He.fAd K d_Route_is_for.at_) fd
  d_Route_contains : ∃ fd, FunD K d_Route_contains.name d_Route_contains.qual d_Route_contains.params d_Route_contains.body d_Route_contains.scope [] [] (He.fAd K d_Route_contains.at_) fd
  d_Route_compared_by : ∃ fd, FunD K d_Route_compared_by.name d_Route_compared_by.qual d_Route_compared_by.params d_Route_compared_by.body d_Route_compared_by.scope [] [] (He.fAd K d_Route_compared_by.at_) fd
  d_RouteServer_init : ∃ fd, FunD K d_RouteServer_init.name d_RouteServer_init.qual d_RouteServer_init.params d_RouteServer_init.body d_RouteServer_init.scope [] [] (He.fAd K d_RouteServer_init.at_) fd
  d_RouteServer_with_own_routes : ∃ fd, FunD K d_RouteServer_with_own_routes.name d_RouteServer_with_own_routes.qual d_RouteServer_with_own_routes.params d_RouteServer_with_own_routes.body d_RouteServer_with_own_routes.scope [] [] (He.fAd K d_RouteServer_with_own_routes.at_) fd
  d_RouteServer_has_member : ∃ fd, FunD K d_RouteServer_has_member.name d_RouteServer_has_member.qual d_RouteServer_has_member.params d_RouteServer_has_member.body d_RouteServer_has_member.scope [] [] (He.fAd K d_RouteServer_has_member.at_) fd
  d_RouteServer_has_asn : ∃ fd, FunD K d_RouteServer_has_asn.name d_RouteServer_has_asn.qual d_RouteServer_has_asn.params d_RouteServer_has_asn.body d_RouteServer_has_asn.scope [] [] (He.fAd K d_RouteServer_has_asn.at_) fd
  d_RouteServer_place_of_route : ∃ fd, FunD K d_RouteServer_place_of_route.name d_RouteServer_place_of_route.qual d_RouteServer_place_of_route.params d_RouteServer_place_of_route.body d_RouteServer_place_of_route.scope [] [] (He.fAd K d_RouteServer_place_of_route.at_) fd
  d_RouteServer_is_eligible : ∃ fd, FunD K d_RouteServer_is_eligible.name d_RouteServer_is_eligible.qual d_RouteServer_is_eligible.params d_RouteServer_is_eligible.body d_RouteServer_is_eligible.scope [] [] (He.fAd K d_RouteServer_is_eligible.at_) fd
  d_RouteServer_rank : ∃ fd, FunD K d_RouteServer_rank.name d_RouteServer_rank.qual d_RouteServer_rank.params d_RouteServer_rank.body d_RouteServer_rank.scope [] [] (He.fAd K d_RouteServer_rank.at_) fd
  d_RouteServer_ranked_routes : ∃ fd, FunD K d_RouteServer_ranked_routes.name d_RouteServer_ranked_routes.qual d_RouteServer_ranked_routes.params d_RouteServer_ranked_routes.body d_RouteServer_ranked_routes.scope [] [] (He.fAd K d_RouteServer_ranked_routes.at_) fd
  d_RouteServer_prefixes_in_order : ∃ fd, FunD K d_RouteServer_prefixes_in_order.name d_RouteServer_prefixes_in_order.qual d_RouteServer_prefixes_in_order.params d_RouteServer_prefixes_in_order.body d_RouteServer_prefixes_in_order.scope [] [] (He.fAd K d_RouteServer_prefixes_in_order.at_) fd
  d_RouteServer_routing_table : ∃ fd, FunD K d_RouteServer_routing_table.name d_RouteServer_routing_table.qual d_RouteServer_routing_table.params d_RouteServer_routing_table.body d_RouteServer_routing_table.scope [] [] (He.fAd K d_RouteServer_routing_table.at_) fd
  d_RouteServer_routing_tables : ∃ fd, FunD K d_RouteServer_routing_tables.name d_RouteServer_routing_tables.qual d_RouteServer_routing_tables.params d_RouteServer_routing_tables.body d_RouteServer_routing_tables.scope [] [] (He.fAd K d_RouteServer_routing_tables.at_) fd
  counts : ∀ H : Hp, SqT K H (He.ga K "ARGUMENT_COUNTS") (Nhp.counts.map V.int)
  tne : (He.cT K tp1).2 ≠ (He.cT K tp2).2
theorem txt_of {K : PySem.W.Frag} {h : Heap} {mg : Str → Option Value} {w : World} (X : K.In h) (G : h.Ns mainGlobals mg) (S : He.SaysX fas fns [] tf ex w h K) : Txt K mg where
  g_is_asn := He.glo_ok X G (S.t.d.fact 0 rfl)
  g_is_address := He.glo_ok X G (S.t.d.fact 1 rfl)
  g_size_of_prefix := He.glo_ok X G (S.t.d.fact 2 rfl)
  g_is_prefix := He.glo_ok X G (S.t.d.fact 3 rfl)
  g_is_as_path := He.glo_ok X G (S.t.d.fact 4 rfl)
  g_are_equal := He.glo_ok X G (S.t.d.fact 5 rfl)
  g_changed_since := He.glo_ok X G (S.t.d.fact 6 rfl)
  g_add_member := He.glo_ok X G (S.t.d.fact 7 rfl)
  g_announce := He.glo_ok X G (S.t.d.fact 8 rfl)
  g_withdraw := He.glo_ok X G (S.t.d.fact 9 rfl)
  g_withdraw_all := He.glo_ok X G (S.t.d.fact 10 rfl)
  g_policy_refusal := He.glo_ok X G (S.t.d.fact 11 rfl)
  g_set_export := He.glo_ok X G (S.t.d.fact 12 rfl)
  g_set_import := He.glo_ok X G (S.t.d.fact 13 rfl)
  g_set_preference := He.glo_ok X G (S.t.d.fact 14 rfl)
  g_split_calls := He.glo_ok X G (S.t.d.fact 15 rfl)
  g_best_route := He.glo_ok X G (S.t.d.fact 16 rfl)
  g_eligible_routes := He.glo_ok X G (S.t.d.fact 17 rfl)
  g_routing_table := He.glo_ok X G (S.t.d.fact 18 rfl)
  g_longest_match := He.glo_ok X G (S.t.d.fact 19 rfl)
  g_lookup := He.glo_ok X G (S.t.d.fact 20 rfl)
  g_reachable_addresses := He.glo_ok X G (S.t.d.fact 21 rfl)
  g_users_of := He.glo_ok X G (S.t.d.fact 22 rfl)
  g_preview_withdraw := He.glo_ok X G (S.t.d.fact 23 rfl)
  g_announced_prefixes := He.glo_ok X G (S.t.d.fact 24 rfl)
  g_member_routes := He.glo_ok X G (S.t.d.fact 25 rfl)
  g_member_policy := He.glo_ok X G (S.t.d.fact 26 rfl)
  g_perform := He.glo_ok X G (S.t.d.fact 27 rfl)
  g_answers := He.glo_ok X G (S.t.d.fact 28 rfl)
  g_Member := He.glo_ok X G (S.t.d.fact 29 rfl)
  c_Member := He.cls_ok (S.t.d.fact 30 rfl)
  k_Member := He.mkr_ok (S.t.d.fact 31 rfl)
  a_Member_asn := He.noat_ok (S.t.d.fact 32 rfl)
  a_Member_export_denials := He.noat_ok (S.t.d.fact 33 rfl)
  a_Member_import_denials := He.noat_ok (S.t.d.fact 34 rfl)
  a_Member_preferences := He.noat_ok (S.t.d.fact 35 rfl)
  g_Route := He.glo_ok X G (S.t.d.fact 36 rfl)
  c_Route := He.cls_ok (S.t.d.fact 37 rfl)
  k_Route := He.mkr_ok (S.t.d.fact 38 rfl)
  a_Route_announcer := He.noat_ok (S.t.d.fact 39 rfl)
  a_Route_address := He.noat_ok (S.t.d.fact 40 rfl)
  a_Route_length := He.noat_ok (S.t.d.fact 41 rfl)
  a_Route_as_path := He.noat_ok (S.t.d.fact 42 rfl)
  g_RouteServer := He.glo_ok X G (S.t.d.fact 43 rfl)
  c_RouteServer := He.cls_ok (S.t.d.fact 44 rfl)
  k_RouteServer := He.mkr_ok (S.t.d.fact 45 rfl)
  a_RouteServer_members := He.noat_ok (S.t.d.fact 46 rfl)
  a_RouteServer_routes := He.noat_ok (S.t.d.fact 47 rfl)
  m_Member_export_denied := He.meth_ok (S.t.d.fact 48 rfl)
  m_Member_import_denied := He.meth_ok (S.t.d.fact 49 rfl)
  m_Member_preference_for := He.meth_ok (S.t.d.fact 50 rfl)
  m_Route_is_for := He.meth_ok (S.t.d.fact 51 rfl)
  m_Route_contains := He.meth_ok (S.t.d.fact 52 rfl)
  m_Route_compared_by := He.meth_ok (S.t.d.fact 53 rfl)
  m_RouteServer_with_own_routes := He.meth_ok (S.t.d.fact 54 rfl)
  m_RouteServer_has_member := He.meth_ok (S.t.d.fact 55 rfl)
  m_RouteServer_has_asn := He.meth_ok (S.t.d.fact 56 rfl)
  m_RouteServer_place_of_route := He.meth_ok (S.t.d.fact 57 rfl)
  m_RouteServer_is_eligible := He.meth_ok (S.t.d.fact 58 rfl)
  m_RouteServer_rank := He.meth_ok (S.t.d.fact 59 rfl)
  m_RouteServer_ranked_routes := He.meth_ok (S.t.d.fact 60 rfl)
  m_RouteServer_prefixes_in_order := He.meth_ok (S.t.d.fact 61 rfl)
  m_RouteServer_routing_table := He.meth_ok (S.t.d.fact 62 rfl)
  m_RouteServer_routing_tables := He.meth_ok (S.t.d.fact 63 rfl)
  i_MAX_ASN := He.int_ok X G (S.t.d.fact 64 rfl)
  i_MAX_PATH_LENGTH := He.int_ok X G (S.t.d.fact 65 rfl)
  i_ADDRESS_BITS := He.int_ok X G (S.t.d.fact 66 rfl)
  i_ADDRESS_COUNT := He.int_ok X G (S.t.d.fact 67 rfl)
  i_NO_MEMBER := He.int_ok X G (S.t.d.fact 68 rfl)
  i_NO_ROUTE := He.int_ok X G (S.t.d.fact 69 rfl)
  i_NO_SERVER := He.int_ok X G (S.t.d.fact 70 rfl)
  i_ASN_IN_USE := He.int_ok X G (S.t.d.fact 71 rfl)
  i_INVALID := He.int_ok X G (S.t.d.fact 72 rfl)
  i_LIMIT_REACHED := He.int_ok X G (S.t.d.fact 73 rfl)
  i_NO_MATCH := He.int_ok X G (S.t.d.fact 74 rfl)
  i_INITIAL_PREFERENCE := He.int_ok X G (S.t.d.fact 75 rfl)
  i_MAX_MEMBERS := He.int_ok X G (S.t.d.fact 76 rfl)
  i_MAX_ROUTES := He.int_ok X G (S.t.d.fact 77 rfl)
  i_MAX_DENIED := He.int_ok X G (S.t.d.fact 78 rfl)
  i_MAX_PREFERENCE := He.int_ok X G (S.t.d.fact 79 rfl)
  i_RESET := He.int_ok X G (S.t.d.fact 80 rfl)
  i_ADD_MEMBER := He.int_ok X G (S.t.d.fact 81 rfl)
  i_ANNOUNCE := He.int_ok X G (S.t.d.fact 82 rfl)
  i_WITHDRAW := He.int_ok X G (S.t.d.fact 83 rfl)
  i_SET_EXPORT := He.int_ok X G (S.t.d.fact 84 rfl)
  i_SET_IMPORT := He.int_ok X G (S.t.d.fact 85 rfl)
  i_SET_PREFERENCE := He.int_ok X G (S.t.d.fact 86 rfl)
  i_BEST_ROUTE := He.int_ok X G (S.t.d.fact 87 rfl)
  i_ELIGIBLE_ROUTES := He.int_ok X G (S.t.d.fact 88 rfl)
  i_ROUTING_TABLE := He.int_ok X G (S.t.d.fact 89 rfl)
  i_LOOKUP := He.int_ok X G (S.t.d.fact 90 rfl)
  i_REACHABLE_ADDRESSES := He.int_ok X G (S.t.d.fact 91 rfl)
  i_USERS_OF := He.int_ok X G (S.t.d.fact 92 rfl)
  i_PREVIEW_WITHDRAW := He.int_ok X G (S.t.d.fact 93 rfl)
  i_WITHDRAW_ALL := He.int_ok X G (S.t.d.fact 94 rfl)
  i_ANNOUNCED_PREFIXES := He.int_ok X G (S.t.d.fact 95 rfl)
  i_MEMBER_ROUTES := He.int_ok X G (S.t.d.fact 96 rfl)
  i_MEMBER_POLICY := He.int_ok X G (S.t.d.fact 97 rfl)
  n_len := He.free_ok X G (S.t.d.fact 98 rfl)
  n_set := He.free_ok X G (S.t.d.fact 99 rfl)
  n_sorted := He.free_ok X G (S.t.d.fact 100 rfl)
  n_all := He.free_ok X G (S.t.d.fact 101 rfl)
  n_enumerate := He.free_ok X G (S.t.d.fact 102 rfl)
  n_range := He.free_ok X G (S.t.d.fact 103 rfl)
  n_max := He.free_ok X G (S.t.d.fact 104 rfl)
  n_list := He.free_ok X G (S.t.d.fact 105 rfl)
  n_KeyError := He.free_ok X G (S.t.d.fact 106 rfl)
  g_ARGUMENT_COUNTS := He.glo_ok X G (S.t.d.fact 107 rfl)
  d_is_asn := S.t.d.def_ 0 rfl
  d_is_address := S.t.d.def_ 1 rfl
  d_size_of_prefix := S.t.d.def_ 2 rfl
  d_is_prefix := S.t.d.def_ 3 rfl
  d_is_as_path := S.t.d.def_ 4 rfl
  d_are_equal := S.t.d.def_ 5 rfl
  d_changed_since := S.t.d.def_ 6 rfl
  d_add_member := S.t.d.def_ 7 rfl
  d_announce := S.t.d.def_ 8 rfl
  d_withdraw := S.t.d.def_ 9 rfl
  d_withdraw_all := S.t.d.def_ 10 rfl
  d_policy_refusal := S.t.d.def_ 11 rfl
  d_set_export := S.t.d.def_ 12 rfl
  d_set_import := S.t.d.def_ 13 rfl
  d_set_preference := S.t.d.def_ 14 rfl
  d_split_calls := S.t.d.def_ 15 rfl
  d_best_route := S.t.d.def_ 16 rfl
  d_eligible_routes := S.t.d.def_ 17 rfl
  d_routing_table := S.t.d.def_ 18 rfl
  d_longest_match := S.t.d.def_ 19 rfl
  d_lookup := S.t.d.def_ 20 rfl
  d_reachable_addresses := S.t.d.def_ 21 rfl
  d_users_of := S.t.d.def_ 22 rfl
  d_preview_withdraw := S.t.d.def_ 23 rfl
  d_announced_prefixes := S.t.d.def_ 24 rfl
  d_member_routes := S.t.d.def_ 25 rfl
  d_member_policy := S.t.d.def_ 26 rfl
  d_perform := S.t.d.def_ 27 rfl
  d_answers := S.t.d.def_ 28 rfl
  d_Member_init := S.t.d.def_ 29 rfl
  d_Member_export_denied := S.t.d.def_ 30 rfl
  d_Member_import_denied := S.t.d.def_ 31 rfl
  d_Member_preference_for := S.t.d.def_ 32 rfl
  d_Route_init := S.t.d.def_ 33 rfl
  d_Route_is_for := S.t.d.def_ 34 rfl
  d_Route_contains := S.t.d.def_ 35 rfl
  d_Route_compared_by := S.t.d.def_ 36 rfl
  d_RouteServer_init := S.t.d.def_ 37 rfl
  d_RouteServer_with_own_routes := S.t.d.def_ 38 rfl
  d_RouteServer_has_member := S.t.d.def_ 39 rfl
  d_RouteServer_has_asn := S.t.d.def_ 40 rfl
  d_RouteServer_place_of_route := S.t.d.def_ 41 rfl
  d_RouteServer_is_eligible := S.t.d.def_ 42 rfl
  d_RouteServer_rank := S.t.d.def_ 43 rfl
  d_RouteServer_ranked_routes := S.t.d.def_ 44 rfl
  d_RouteServer_prefixes_in_order := S.t.d.def_ 45 rfl
  d_RouteServer_routing_table := S.t.d.def_ 46 rfl
  d_RouteServer_routing_tables := S.t.d.def_ 47 rfl
  counts := fun H => by
    have z := He.tupB_ok (He.ba S.more).1 H
    rw [List.map_map] at z
    exact z
  tne := of_decide_eq_true (He.ba S.more).2
end Nhp
section
set_option maxHeartbeats 0
namespace Nhp
open PySem PySem.W PySem.Calls PyProof.Rows
abbrev Rw : PySem.W.OpenSpec := PySem.Challenge.rw_nohiddenpaths_s01_answers
abbrev hk : PySem.W.Hook := He.hookX 5 fas fns [] tf ex
def ob (s : PySem.W.SharedT) : He.AlX := He.obsX 5 fas fns [] tf ex (HandSHeadRun.getT s)
theorem ob_eq (s : PySem.W.SharedT) : ob s = hk.obs s.abs := He.obsX_eq (HandSHeadRun.getT_eq s)
theorem run (w : World) : HeadRun.RunEqS Rw (PySem.W.view Rw.prog [72]) hk ob 4000 names w := by
  intro os
  kernel_rfl
end Nhp
end
/-! Rules that the layer lacks, 1: a lambda of parameters, made and called within a built-in. -/
namespace Nhp
open PySem PySem.Spec PyProof.Rows L2 LamX NdefX
section
variable {X : Cx} {pins : List (Addr × Obj)} {σ : L2.St} {H : Hp} {s : Shared}
/-- the lambda as a function of the layer of nested defs (its body stands apart) -/
abbrev lamF (q : Str) (params : Arguments) (scope : Scope) (cl : List (Str × Addr)) (c' : Addr) : NF := ⟨"<lambda>", q, params, [], scope, cl, c'⟩
/-- the lambda's object, pinned -/
theorem lam_pin {q : Str} {params : Arguments} {body : Expr} {scope : Scope} {cl : List (Str × Addr)} {f c' : Addr} {pm ctv : Value} (I : Inv X pins σ H s)
    (hf : s.heap.get? f = some (PySem.W.kla_obj "<lambda>" q params body scope cl pm c' ctv)) (hn : H f = none) (hs : f ∉ frs X.stack) :
    Inv X ((f, PySem.W.kla_obj "<lambda>" q params body scope cl pm c' ctv) :: pins) σ H s := by
  refine I.pins_of fun p hp => ?_
  rcases List.mem_cons.mp hp with e | hp
  · subst e
    refine ⟨hf, hn, fun z => ?_, fun z => hs ?_, fun v z => by cases z⟩
    · obtain ⟨m, ⟨o, es, ep, ho, hd, _⟩, _⟩ := I.loc
      rw [← z] at ho
      rw [hf] at ho
      cases ho
      cases hd
    · rcases I.ok.stk with e | ⟨e, hfr⟩
      · rw [e]; exact z
      · rw [e]
        unfold frs
        rw [List.filterMap_cons, hfr]
        exact List.mem_cons_of_mem _ z
  · exact I.pin p (List.mem_append_right _ hp)
theorem unpin {p : Addr × Obj} (I : Inv X (p :: pins) σ H s) : Inv X pins σ H s := I.pins_of fun q hq => I.pin q (List.mem_append_right _ (List.mem_cons_of_mem _ hq))
/-- the lambda is called at A (deeper than X.A, the same frames) -/
theorem lam_call {A : Around} {k : Nat} {q : Str} {params : Arguments} {body : Expr} {scope : Scope} {cl : List (Str × Addr)} {f c' : Addr} {pm ctv : Value} {N ps fr : List Str} {js : List Nat} {us : List Value} {vs : List V} {Q : VK} {E : Value → Shared → Prop} {t : TE}
    (e0 : Env0 X.prog X.w X.K X.mg X.base A X.stack s H) (hr : Room (k + 1) A) (I : Inv X pins σ H s) (hf : s.heap.get? f = some (PySem.W.kla_obj "<lambda>" q params body scope cl pm c' ctv)) (hc : H c' = some (CodeO c' q)) (S : NScope N ps fr scope) (cp : Caps X cl fr js)
    (hb : ∀ us : List Value, us.length = ps.length → bindArgs (PySem.W.kla_fn "<lambda>" q params body scope cl pm (.ref c') ctv) ⟨us, []⟩ = pure (ps.zip us)) (r : Vals vs us) (hl : vs.length = ps.length)
    (hbody : ∀ (outer : List Env) (s : Shared) (H : Hp), Room k (A.deeper (envF (lamF q params scope cl c') f s.heap.objs.size)) → PE (ncx CX0 X.prog X.w X.K X.mg X.base N (lamF q params scope cl c') f A outer s H E0) body t)
    (h : t (startF N vs (js.map (slotAt σ))) H Q) : wpAny (model X.prog X.w) A (call (.ref f) us) (EP X pins σ Q) E s := by
  have C := cells_of I cp
  have lim : s.heap.NoLimit := I.nolimit
  have rc : codeAny (model X.prog X.w) A (.call (.ref f) ⟨us, []⟩) (CR CX0 X.stack X.prog X.w H s Q E0) s := by
    refine PySem.W.kla_callFunE hr.depth hf rfl S.co S.gen rfl (codeO_at I.hok hc) ?_
    rw [hb us (by rw [← r.length]; exact hl)]
    refine wpAny_pure (wpAny_newFunctionEnv S.nocell (fun ⟨n, _⟩ hy => S.par n (List.of_mem_zip hy).1) (fun h₁ hns hsb => ⟨lim.fresh _ hsb, ?_⟩) S.kind)
    show codeAny _ _ (.expr body (envF (lamF q params scope cl c') f s.heap.objs.size)) _ _
    have kp : ∀ b o, s.heap.get? b = some o → h₁.get? b = some o := fun b o e => hsb.extBut b o (Nat.ne_of_lt (Heap.lt_size e)) (Heap.get?_push_of_some _ e)
    have J : Inv (ncx CX0 X.prog X.w X.K X.mg X.base N (lamF q params scope cl c') f A X.stack s H E0) [] (startF N vs (js.map (slotAt σ))) H { s with heap := h₁, toks := s.toks + (ps.zip us).length } := inv_startN S hr.hd e0 hl r C hns kp
    refine PySem.W.kla_codeExpr (wpAny_mono ((hbody X.stack s H (hr.deeper _)).run [] _ _ H Q J h) (fun v s' hq => ?_) fun e s' hq => hq)
    obtain ⟨w', H', J', rv, q⟩ := hq
    exact ⟨w', H', J'.os, J'.bare, J'.base, J'.hok, rv, q⟩
  refine wpAny_call (codeAny_mono rc fun r s' hq => ?_)
  cases r with
  | error e => exact False.elim hq
  | ok fl =>
    cases fl with
    | ret u => exact I.after hq
    | next => exact False.elim hq
    | brk => exact False.elim hq
    | cont => exact False.elim hq
end
end Nhp
/-! Rules that the layer lacks, 2: list.sort by a key whose answers are triples of ints. -/
namespace Nhp
open PySem PySem.Spec PyProof.Rows L2 LamX NdefX
/-- v is a tuple of three ints -/
def IsTri (h : Heap) (v : Value) (k : Int × Int × Int) : Prop := ∃ a o t u w n, v = .ref a ∧ h.get? a = some o ∧ o.cls = .type "tuple" ∧ o.data = .seq #[.int k.1 t, .int k.2.1 u, .int k.2.2 w] n
def kOf (h : Heap) (v : Value) : Int × Int × Int := match v with
  | .ref a => (match h.get? a with
    | some o => (match o.data with
      | .seq xs _ => (numOf (xs.getD 0 .none), numOf (xs.getD 1 .none), numOf (xs.getD 2 .none))
      | _ => (0, 0, 0))
    | none => (0, 0, 0))
  | _ => (0, 0, 0)
theorem IsTri.kOf {h : Heap} {v : Value} {k : Int × Int × Int} (x : IsTri h v k) : kOf h v = k := by
  obtain ⟨a, o, t, u, w, n, rfl, ho, hc, hd⟩ := x
  obtain ⟨k1, k2, k3⟩ := k
  simp only [Nhp.kOf, ho, hd]
  rfl
theorem IsTri.keeps {h h' : Heap} {v : Value} {k : Int × Int × Int} (x : IsTri h v k) (kp : ∀ b o, h.get? b = some o → o.cls = .type "tuple" → h'.get? b = some o) : IsTri h' v k := by
  obtain ⟨a, o, t, u, w, n, e, ho, hc, hd⟩ := x
  exact ⟨a, o, t, u, w, n, e, kp _ _ ho hc, hc, hd⟩
abbrev ltK (h : Heap) (p q : Keyed) : Bool := lex3 (kOf h p.1) (kOf h q.1)
theorem swo_tri (h : Heap) : SrtO.Swo (ltK h) := by
  refine ⟨fun x y e => ?_, fun x y z h1 h2 => ?_⟩
  · have a := lex3_iff.mp e
    refine lex3_no.mpr ?_
    omega
  · have a := lex3_no.mp h1
    have b := lex3_no.mp h2
    refine lex3_no.mpr ?_
    omega
theorem firsts_tri {h : Heap} : ∀ {vs : List Value}, (∀ v ∈ vs, IsTri h v (kOf h v)) → ∃ fs : List Value, PySem.W.KatTups h vs fs ∧ fs.length = vs.length ∧ ∀ f ∈ fs, ∃ x t, f = Value.int x t
  | [], _ => ⟨[], PySem.W.KatTups.nil, rfl, fun _ hm => by simp at hm⟩
  | v :: vs, hp => by
    obtain ⟨fs, h1, h2, h3⟩ := firsts_tri (vs := vs) fun v' hm => hp v' (List.mem_cons_of_mem _ hm)
    obtain ⟨a, o, t, u, w, n, e, ho, hc, hd⟩ := hp v (List.mem_cons_self ..)
    subst e
    refine ⟨.int _ t :: fs, PySem.W.KatTups.cons ho hc hd rfl h1, by rw [List.length_cons, List.length_cons, h2], fun f hm => ?_⟩
    rcases List.mem_cons.mp hm with rfl | hm
    · exact ⟨_, t, rfl⟩
    · exact h3 f hm
section
variable {prog : Program} {w : World} {A : Around} {E : Value → Shared → Prop} {s : Shared}
theorem tri_lt {v u : Value} {k k' : Int × Int × Int} {Q : Bool → Shared → Prop} (h1 : IsTri s.heap v k) (h2 : IsTri s.heap u k') (h : Q (lex3 k k') s) : wpAny (model prog w) A (keyLt' (PyProof.Rows.tuples' true) v u) Q E s := by
  obtain ⟨a, o, t1, t2, t3, n, e, ho, hc, hd⟩ := h1
  obtain ⟨a', o', t1', t2', t3', n', e', ho', hc', hd'⟩ := h2
  obtain ⟨x, y, z⟩ := k
  obtain ⟨x', y', z'⟩ := k'
  rw [e, e']
  refine PySem.W.kat_lt ho hd ho' hd' ?_
  show PySem.W.KatLex prog w A true (decide (3 < 3)) _ [(.int x t1, .int x' t1'), (.int y t2, .int y' t2'), (.int z t3, .int z' t3')] 0 s
  have hl : lex3 (x, y, z) (x', y', z') = if x = x' then (if y = y' then decide (z < z') else decide (y < y')) else decide (x < x') := rfl
  rw [hl] at h
  refine PySem.W.kat_cons (SeqAt.EqAt.int_int x t1 x' t1' prog w _ _ ?_)
  refine PySem.W.kat_go (fun e1 => ?_) (fun e1 => ?_)
  · have ex : x = x' := by simpa using e1
    rw [if_pos ex] at h
    refine PySem.W.kat_yes (PySem.W.kat_cons (SeqAt.EqAt.int_int y t2 y' t2' prog w _ _ ?_))
    refine PySem.W.kat_go (fun e2 => ?_) (fun e2 => ?_)
    · have ey : y = y' := by simpa using e2
      rw [if_pos ey] at h
      refine PySem.W.kat_yes (PySem.W.kat_cons (SeqAt.EqAt.int_int z t3 z' t3' prog w _ _ ?_))
      refine PySem.W.kat_go (fun e3 => ?_) (fun e3 => ?_)
      · have ez : z = z' := by simpa using e3
        rw [ez, decide_eq_false (Int.lt_irrefl _)] at h
        exact PySem.W.kat_yes (PySem.W.kat_nil h)
      · exact PySem.W.kat_no (PySem.W.kat_one _ _ (PyProof.Rows.lt_int h))
    · have ey : ¬ y = y' := by simpa using e2
      rw [if_neg ey] at h
      exact PySem.W.kat_no (PySem.W.kat_one _ _ (PyProof.Rows.lt_int h))
  · have ex : ¬ x = x' := by simpa using e1
    rw [if_neg ex] at h
    exact PySem.W.kat_no (oneLt_int h)
theorem tri_cmp {ks : List Value} (hp : ∀ v ∈ ks, IsTri s.heap v (kOf s.heap v)) : SrtO.Cmp prog w A s (PyProof.Rows.tuples' true) (fun p => p.1 ∈ ks) (ltK s.heap) := fun p q hm hm' =>
  tri_lt (Q := fun r s' => s' = s ∧ r = ltK s.heap p q) (hp _ hm) (hp _ hm') ⟨rfl, rfl⟩
theorem tri_tail {a kS : Addr} {vs : List Value} {keys : Array Value} {e1 eK : Nat} {st : SortSt} {P : PySem.Fin → Shared → Prop} (hk : s.heap.get? kS = some (seqObj "list" keys eK)) (ha : s.heap.get? a = some (seqObj "list" #[] e1)) (hka : kS ≠ a) (hsz : keys.size = vs.length) (hz : vs.length ≤ sizeLine)
    (hs : SrtO.Srtd (ltK s.heap) (arrOf st).toList) (hb : SrtO.Stb (ltK s.heap) (arrOf st).toList (keys.zip vs.toArray).toList) (hf : failedOf st = none)
    (h : ∀ (ps : List (Value × Value)) (h' : Heap), ps.Perm (keys.toList.zip vs) → ps.Pairwise (fun p q => lex3 (kOf s.heap q.1) (kOf s.heap p.1) = false) → (∀ b o, b ≠ kS → b ≠ a → s.heap.get? b = some o → h'.get? b = some o) →
      (∃ n, h'.get? a = some (seqObj "list" (ps.map Prod.snd).toArray n)) → (∃ n, h'.get? kS = some (seqObj "list" #[] n)) → P (.done (.ret .none)) { s with heap := h' }) :
    wpAny (model prog w) A (ksk_tail a false e1 (.ref kS) st) P E s := by
  have hsz2 : (arrOf st).size = vs.length := by
    have hl := hb.len
    have e1 : (arrOf st).toList.length = (arrOf st).size := Array.length_toList
    have e2 : (keys.zip vs.toArray).toList.length = vs.length := by rw [Array.length_toList, Array.size_zip, hsz, List.size_toArray, Nat.min_self]
    rw [← e1, hl, e2]
  have s1 := Heap.SameBut.update s.heap kS (Obj.mapSeq fun _ => (#[] : Array Value))
  have hk1 := get?_update_seq hk (fun _ => (#[] : Array Value))
  have na1 : (s.heap.update kS (Obj.mapSeq fun _ => (#[] : Array Value))).get? a = some (seqObj "list" #[] e1) := (s1.2 a hka.symm).trans ha
  have s2 := Heap.SameBut.update (s.heap.update kS (Obj.mapSeq fun _ => (#[] : Array Value))) a (Obj.mapSeq fun _ => (arrOf st).map (·.2))
  have na2 := get?_update_seq na1 (fun _ => (arrOf st).map (·.2))
  unfold ksk_tail
  refine wpAny_bind (listUpdate_at hk rfl ?_ (by rw [hsz]; exact hz) (Nat.zero_le _))
  refine wpAny_bind (wpAny_letGo ?_)
  refine wpAny_bind (seqEpoch_at na1 rfl ?_)
  simp only [bne_self_eq_false, Bool.false_eq_true, if_false]
  refine wpAny_bind (listUpdate_at na1 rfl ?_ (Nat.zero_le _) (by rw [Array.size_map, hsz2]; omega))
  rw [hf]
  show wpAny (model prog w) A (pure (.done (.ret .none))) P E _
  have e : ((arrOf st).toList.map Prod.snd).toArray = (arrOf st).map (·.2) := by
    apply Array.ext'
    simp
  have hpm : (arrOf st).toList.Perm (keys.toList.zip vs) := by
    have z := hb.perm
    rw [ksk_zip] at z
    exact z
  exact wpAny_pure (h (arrOf st).toList _ hpm (hs.imp fun {p q} z => z) (fun b o n1 n2 e => (s2.2 b n2).trans ((s1.2 b n1).trans e)) ⟨_, by rw [e]; exact na2⟩ ⟨_, (s2.2 kS hka).trans hk1⟩)
theorem tri_end {a kS : Addr} {vs : List Value} {keys : Array Value} {e1 eK : Nat} {P : PySem.Fin → Shared → Prop} (hk : s.heap.get? kS = some (seqObj "list" keys eK)) (ha : s.heap.get? a = some (seqObj "list" #[] e1)) (hka : kS ≠ a) (hsz : keys.size = vs.length) (hz : vs.length ≤ sizeLine)
    (ht : ∀ v ∈ keys.toList, IsTri s.heap v (kOf s.heap v))
    (h : ∀ (ps : List (Value × Value)) (h' : Heap), ps.Perm (keys.toList.zip vs) → ps.Pairwise (fun p q => lex3 (kOf s.heap q.1) (kOf s.heap p.1) = false) → (∀ b o, b ≠ kS → b ≠ a → s.heap.get? b = some o → h'.get? b = some o) →
      (∃ n, h'.get? a = some (seqObj "list" (ps.map Prod.snd).toArray n)) → (∃ n, h'.get? kS = some (seqObj "list" #[] n)) → P (.done (.ret .none)) { s with heap := h' }) :
    wpAny (model prog w) A (ksk_end a false vs.toArray e1 (.ref kS) keys) P E s := by
  have hzs : (keys.zip vs.toArray).size = vs.length := by rw [Array.size_zip, hsz, List.size_toArray, Nat.min_self]
  unfold ksk_end
  simp only [Bool.false_eq_true, if_false]
  by_cases h2 : vs.toArray.size < 2
  · rw [if_pos h2, if_pos h2]
    refine wpAny_bind (wpAny_pure ?_)
    rw [StateT.run_pure]
    refine wpAny_bind (wpAny_pure ?_)
    refine tri_tail (st := SortSt.mk' general' (keys.zip vs.toArray) #[] 7 none) hk ha hka hsz hz ?_ (SrtO.Stb.refl _) rfl h
    show SrtO.Srtd _ (keys.zip vs.toArray).toList
    have hl : (keys.zip vs.toArray).toList.length < 2 := by
      rw [Array.length_toList, hzs]
      simpa using h2
    match (keys.zip vs.toArray).toList, hl with
    | [], _ => exact List.Pairwise.nil
    | [v], _ => exact List.pairwise_singleton _ _
    | _ :: _ :: l, h => exact absurd h (by rw [List.length_cons, List.length_cons]; omega)
  · rw [if_neg h2, if_neg h2]
    have h2' : 2 ≤ keys.toList.length := by
      rw [Array.length_toList, hsz]
      have : vs.toArray.size = vs.length := by simp
      omega
    obtain ⟨fs, f1, f2, f3⟩ := firsts_tri ht
    refine wpAny_bind ?_
    have hkd : wpAny (model prog w) A (keyKind' keys.toList.toArray) (fun κ s' => κ = PyProof.Rows.tuples' true ∧ s' = s) E s := by
      refine PySem.W.kat_kind (T := .type "int") f1 (by omega) (fun f hm => ?_) (by rfl) ?_
      · obtain ⟨x, t, rfl⟩ := f3 f hm
        exact PySem.W.Looks.now
      · have e : (Value.type "int" != Value.type "tuple") = true := by first | decide +kernel | rfl | decide
        rw [e]
        exact ⟨rfl, rfl⟩
    rw [Array.toArray_toList] at hkd
    refine wpAny_mono hkd (fun κ s' hκ => ?_) fun _ _ z => z
    obtain ⟨rfl, rfl⟩ := hκ
    have hall : SrtO.AllL (fun p : Keyed => p.1 ∈ keys.toList) (keys.zip vs.toArray).toList := fun p hm => by
      rw [ksk_zip] at hm
      obtain ⟨p1, p2⟩ := p
      exact (List.of_mem_zip hm).1
    refine wpAny_bind (wpAny_mono (SrtO.wpS_sortO (st0 := SortSt.mk' (PyProof.Rows.tuples' true) (keys.zip vs.toArray) #[] 7 none)
      (Q := fun _ st' => SrtO.Srtd (ltK s'.heap) (arrOf st').toList ∧ SrtO.Stb (ltK s'.heap) (arrOf st').toList (keys.zip vs.toArray).toList ∧ failedOf st' = none) (swo_tri s'.heap) (tri_cmp ht) rfl hall rfl rfl fun st' a1 a2 a3 => ⟨a1, a2, a3⟩) ?_ fun _ _ e => e)
    rintro ⟨⟨⟩, st'⟩ s2 ⟨rfl, hp1, hp2, hf⟩
    exact tri_tail hk ha hka hsz hz hp1 hp2 hf h
end
end Nhp
/-! Rules that the layer lacks, 3: list.sort by such a key over the abstract heap. -/
namespace Nhp
open PySem PySem.Spec PyProof.Rows L2 LamX NdefX
def triV (k : Int × Int × Int) : List V := [.int k.1, .int k.2.1, .int k.2.2]
section
variable {X : Cx} {pins : List (Addr × Obj)} {σ : L2.St} {H : Hp} {s : Shared}
theorem tri_of {t : Addr} {k : Int × Int × Int} (I : Inv X pins σ H s) (h : H t = some (.tup (triV k))) : IsTri s.heap (.ref t) k := by
  obtain ⟨_, its, rv, o, ho, hc, n, hd⟩ := I.hok t _ h
  unfold triV at rv
  cases rv with
  | cons r1 rv =>
    cases rv with
    | cons r2 rv =>
      cases rv with
      | cons r3 rv =>
        cases rv
        obtain ⟨t1, rfl⟩ := r1
        obtain ⟨t2, rfl⟩ := r2
        obtain ⟨t3, rfl⟩ := r3
        exact ⟨t, o, t1, t2, t3, n, rfl, ho, hc, hd⟩
/-- one more pin, of an object that is not tracked -/
theorem pin_more {p : Addr × Obj} (I : Inv X pins σ H s) (f : FpOk X pins H p.1) (ho : s.heap.get? p.1 = some p.2) (hc : ∀ v, p.2.data ≠ .cell v) : Inv X (p :: pins) σ H s := by
  refine I.pins_of fun q hq => ?_
  rcases List.mem_cons.mp hq with e | hq
  · rw [e]
    exact ⟨ho, f.1, f.2.1, f.2.2.1, hc⟩
  · exact I.pin q (List.mem_append_right _ hq)
theorem fp_more {p : Addr × Obj} {b : Addr} (f : FpOk X pins H b) (h : p.1 ≠ b) : FpOk X (p :: pins) H b := by
  obtain ⟨a1, a2, a3, a4, a5, a6⟩ := f
  refine ⟨a1, a2, a3, a4, a5, fun q hq => ?_⟩
  rcases List.mem_append.mp hq with hq | hq
  · exact a6 q (List.mem_append_left _ hq)
  · rcases List.mem_cons.mp hq with e | hq
    · rw [e]; exact h
    · exact a6 q (List.mem_append_right _ hq)
theorem fp_at {H' : Hp} {b : Addr} (f : FpOk X pins H b) (h : H' b = none) : FpOk X pins H' b := ⟨h, f.2⟩
theorem turn1 {h' : Heap} {t' : Nat} {b : Addr} (I : Inv X pins σ H s) (k : ∀ c o, c ≠ b → s.heap.get? c = some o → h'.get? c = some o) (f : FpOk X pins H b) : Inv X pins σ H { s with heap := h', toks := t' } :=
  I.turned k f.1 f.2.1 f.2.2.2.1 f.2.2.2.2.1 f.2.2.2.2.2
/-- what a key's call is to keep and give -/
abbrev KeyEnd (key : V → Int × Int × Int) (y : V) (H' : Hp) : VK := fun v H'' => Same H' H'' ∧ ∃ t, v = .ref t ∧ H'' t = some (.tup (triV (key y)))
theorem sortK_core {A : Around} {f : Value} {a : Addr} {its : List Value} {xs : List V} {n : Nat} {key : V → Int × Int × Int} {R : PySem.Fin → Shared → Prop} {E : Value → Shared → Prop}
    (I : Inv X pins σ H s) (fa : FpOk X pins H a) (ho : s.heap.get? a = some (seqObj "list" its.toArray n)) (rv : Vals xs its) (hz : its.length ≤ sizeLine) (href : ∀ x ∈ xs, ∃ b, x = V.ref b)
    (turn : ∀ (i : Nat) (y : V) (u : Value) (H' : Hp) (s' : Shared) (more : List (Addr × Obj)), xs[i]? = some y → RelV y u → Inv X (more ++ pins) σ H' s' → Same H H' →
      wpAny (model X.prog X.w) A (call f [u]) (EP X (more ++ pins) σ (KeyEnd key y H')) (fun _ _ => False) s')
    (h : ∀ (ys : List V) (H' : Hp) (s' : Shared), Inv X pins σ H' s' → Same H H' → H' a = some (.lst ys) → ys.Perm xs → ys.Pairwise (fun x y => lex3 (key y) (key x) = false) → R (.done (.ret .none)) s') :
    wpAny (model X.prog X.w) A (ksk_tree a f false) R E s := by
  have hlen : xs.length = its.length := rv.length
  have sb1 := Heap.SameBut.update s.heap a (Obj.mapSeq fun _ => (#[] : Array Value))
  obtain ⟨e1, ho1⟩ : ∃ e1, (s.heap.update a (Obj.mapSeq fun _ => #[])).get? a = some (seqObj "list" #[] e1) := ⟨_, get?_update_seq ho (fun _ => #[])⟩
  unfold ksk_tree
  refine wpAny_bind (listItems_at ho rfl ?_)
  refine wpAny_bind (listUpdate_at ho rfl ?_ (by rw [List.size_toArray]; exact hz) (Nat.zero_le _))
  have I1 : Inv X pins σ H { s with heap := s.heap.update a (Obj.mapSeq fun _ => #[]) } := turn1 (t' := s.toks) I (fun c o hc e => (sb1.2 c hc).trans e) fa
  refine wpAny_bind (seqEpoch_at ho1 rfl ?_)
  refine wpAny_bind (wpAny_newTuple ?_ (by simpa using hz))
  have I2 := I1.kept (t' := s.toks) (h' := (s.heap.update a (Obj.mapSeq fun _ => #[])).push { cls := .type "tuple", data := .seq its.toArray.toList.toArray }) fun b o e => Heap.get?_push_of_some _ e
  have ho2 : ((s.heap.update a (Obj.mapSeq fun _ => #[])).push { cls := .type "tuple", data := .seq its.toArray.toList.toArray }).get? a = some (seqObj "list" #[] e1) := Heap.get?_push_of_some _ ho1
  refine wpAny_bind (wpAny_newList ?_ (Nat.zero_le _))
  have fk := I2.fpOk (H' := H) (Nat.le_refl _) (I2.hok.fresh (Nat.le_refl _))
  have hne : a ≠ ((s.heap.update a (Obj.mapSeq fun _ => #[])).push { cls := .type "tuple", data := .seq its.toArray.toList.toArray }).objs.size := Nat.ne_of_lt (Heap.lt_size ho2)
  have I3 := I2.kept (t' := s.toks) (h' := ((s.heap.update a (Obj.mapSeq fun _ => #[])).push { cls := .type "tuple", data := .seq its.toArray.toList.toArray }).push { cls := .type "list", data := .seq ([] : List Value).toArray }) fun b o e => Heap.get?_push_of_some _ e
  have hoK : (((s.heap.update a (Obj.mapSeq fun _ => #[])).push { cls := .type "tuple", data := .seq its.toArray.toList.toArray }).push { cls := .type "list", data := .seq ([] : List Value).toArray }).get?
      ((s.heap.update a (Obj.mapSeq fun _ => #[])).push { cls := .type "tuple", data := .seq its.toArray.toList.toArray }).objs.size = some (seqObj "list" #[] 0) := Heap.get?_push_size _ rfl
  have ho3 : (((s.heap.update a (Obj.mapSeq fun _ => #[])).push { cls := .type "tuple", data := .seq its.toArray.toList.toArray }).push { cls := .type "list", data := .seq ([] : List Value).toArray }).get? a = some (seqObj "list" #[] e1) := Heap.get?_push_of_some _ ho2
  refine wpAny_holding ?_
  show wpAny (model X.prog X.w) A (ksk_rest a f false its.toArray e1 (.ref ((s.heap.update a (Obj.mapSeq fun _ => #[])).push { cls := .type "tuple", data := .seq its.toArray.toList.toArray }).objs.size)) R E
    { s with heap := ((s.heap.update a (Obj.mapSeq fun _ => #[])).push { cls := .type "tuple", data := .seq its.toArray.toList.toArray }).push { cls := .type "list", data := .seq ([] : List Value).toArray } }
  generalize ((s.heap.update a (Obj.mapSeq fun _ => #[])).push { cls := .type "tuple", data := .seq its.toArray.toList.toArray }).objs.size = kS at fk hne hoK I3 ⊢
  generalize (((s.heap.update a (Obj.mapSeq fun _ => #[])).push { cls := .type "tuple", data := .seq its.toArray.toList.toArray }).push { cls := .type "list", data := .seq ([] : List Value).toArray }) = h3 at hoK ho3 I3 ⊢
  unfold ksk_rest
  refine wpAny_bind (wpAny_rule ?_)
  first
    | rw [List.forIn_toArray]
    | (rw [← Array.forIn_toList]; simp only [List.toList_toArray])
    | rw [← Array.forIn_toList]
  have nc : ∀ (xs : Array Value) (k : Nat) (v : Option Value), (seqObj "list" xs k).data ≠ .cell v := fun xs k v z => by cases z
  refine wpAny_bind (ksk_fold (fun i s' => ∃ (H' : Hp) (keys : Array Value) (eK : Nat), Inv X ((kS, seqObj "list" keys eK) :: (a, seqObj "list" #[] e1) :: pins) σ H' s' ∧ Same H H' ∧ keys.size = i ∧
      ∀ j y, j < i → xs[j]? = some y → ∃ t, keys[j]? = some (.ref t) ∧ H' t = some (.tup (triV (key y)))) its 0 _ ?start ?step ?done)
  case start =>
    have I4 := pin_more (p := (a, seqObj "list" #[] e1)) I3 fa ho3 (nc _ _)
    exact ⟨H, #[], 0, pin_more (p := (kS, seqObj "list" #[] 0)) I4 (fp_more fk hne) hoK (nc _ _), Same.refl H, rfl, fun j y hj => absurd hj (Nat.not_lt_zero j)⟩
  case step =>
    rintro j x s' hx ⟨H', keys, eK, I', hs', hk, hks⟩
    rw [Nat.zero_add] at hk hks ⊢
    have hj : j < its.length := (List.getElem?_eq_some_iff.mp hx).1
    have hy : xs[j]? = some xs[j] := List.getElem?_eq_getElem (by omega)
    obtain ⟨u, hu, ru⟩ := rv.get hy
    obtain rfl : u = x := Option.some.inj (hu.symm.trans hx)
    refine wpAny_bind (wpAny_attempt (wpAny_mono (turn j _ u H' s' [(kS, seqObj "list" keys eK), (a, seqObj "list" #[] e1)] hy ru I' hs') (fun v s2 he => ?_) fun _ _ hF => hF.elim))
    obtain ⟨v', H2, I2', rv2, hs2, t, rfl, ht⟩ := he
    obtain rfl : v = Value.ref t := rv2
    have I2'' : Inv X ((kS, seqObj "list" keys eK) :: (a, seqObj "list" #[] e1) :: pins) σ H2 s2 := I2'
    obtain ⟨pk1, pk2, _⟩ := I2''.pin (kS, seqObj "list" keys eK) (List.mem_append_right _ (List.mem_cons_self ..))
    have I5 := unpin I2''
    have fk5 : FpOk X ((a, seqObj "list" #[] e1) :: pins) H2 kS := fp_more (fp_at fk pk2) hne
    have sbk := Heap.SameBut.update s2.heap kS (Obj.mapSeq (·.push (Value.ref t)))
    have hkz : keys.size < its.length := by omega
    refine wpAny_bind (listUpdate_at pk1 rfl ?_ (by omega) (Nat.le_trans (Nat.le_of_eq (Array.size_push ..)) (by omega)))
    have I6 : Inv X ((a, seqObj "list" #[] e1) :: pins) σ H2 { s2 with heap := s2.heap.update kS (Obj.mapSeq (·.push (Value.ref t))) } := turn1 (t' := s2.toks) I5 (fun c o hc e => (sbk.2 c hc).trans e) fk5
    refine wpAny_pure ⟨rfl, H2, keys.push (.ref t), _, pin_more (p := (kS, seqObj "list" (keys.push (.ref t)) _)) I6 fk5 (get?_update_seq pk1 _) (nc _ _), hs'.trans hs2, by rw [Array.size_push, hk], fun i y hi hyi => ?_⟩
    by_cases e : i < j
    · obtain ⟨t', e1, e2⟩ := hks i y e hyi
      exact ⟨t', by rw [Array.getElem?_push_lt (by omega)]; rw [Array.getElem?_eq_getElem (by omega)] at e1; exact e1, hs2 _ _ e2⟩
    · obtain rfl : i = j := by omega
      obtain rfl : xs[i] = y := Option.some.inj (hy.symm.trans hyi)
      exact ⟨t, by rw [← hk]; simp, ht⟩
  case done =>
    rintro s' ⟨H', keys, eK, I', hs', hk, hks⟩
    rw [Nat.zero_add] at hk hks
    have hk : keys.size = its.length := by simpa using hk
    have hkl : keys.toList.length = its.length := by rw [Array.length_toList, hk]
    obtain ⟨pk1, pk2, _⟩ := I'.pin (kS, seqObj "list" keys eK) (List.mem_append_right _ (List.mem_cons_self ..))
    obtain ⟨pa1, pa2, _⟩ := I'.pin (a, seqObj "list" #[] e1) (List.mem_append_right _ (List.mem_cons_of_mem _ (List.mem_cons_self ..)))
    refine wpAny_bind (listItems_at pk1 rfl ?_)
    have kat : ∀ (j : Nat) (k u : Value), keys.toList[j]? = some k → its[j]? = some u → ∃ y, xs[j]? = some y ∧ RelV y u ∧ IsTri s'.heap k (key y) := fun j k u e1 e2 => by
      have hj : j < xs.length := by
        have := (List.getElem?_eq_some_iff.mp e2).1
        omega
      have hy : xs[j]? = some xs[j] := List.getElem?_eq_getElem hj
      obtain ⟨u2, hu2, ru⟩ := rv.get hy
      obtain rfl : u2 = u := Option.some.inj (hu2.symm.trans e2)
      obtain ⟨t, q1, q2⟩ := hks j xs[j] (by omega) hy
      rw [Array.getElem?_toList] at e1
      obtain rfl : k = Value.ref t := Option.some.inj (e1.symm.trans q1)
      exact ⟨xs[j], hy, ru, tri_of I' q2⟩
    have ht : ∀ v ∈ keys.toList, IsTri s'.heap v (kOf s'.heap v) := fun v hv => by
      obtain ⟨j, hj⟩ := List.mem_iff_getElem?.mp hv
      have hj' : j < its.length := by
        have := (List.getElem?_eq_some_iff.mp hj).1
        rw [Array.length_toList] at this
        omega
      obtain ⟨y, _, _, z⟩ := kat j v _ hj (List.getElem?_eq_getElem hj')
      rw [z.kOf]
      exact z
    refine tri_end pk1 pa1 hne.symm hk hz ht fun ps h' hp hsrt hkeep ⟨n1, ha'⟩ ⟨n2, hk'⟩ => ?_
    obtain ⟨ex, eu⟩ := L2.bkV_refs rv href
    have I5 : Inv X pins σ H' s' := unpin (unpin I')
    have I6 : Inv X pins σ H' { s' with heap := h' } := I5.turnedL (t' := s'.toks) (ch := [kS, a]) (fun b o hb e => hkeep b o (fun z => hb (by simp [z])) (fun z => hb (by simp [z])) e) fun b hb => by
      rcases List.mem_cons.mp hb with rfl | hb
      · exact fp_at fk pk2
      · rw [List.mem_singleton.mp hb]; exact fp_at fa pa2
    have pz : (ps.map Prod.snd).Perm its := by
      have z := hp.map Prod.snd
      rw [List.map_snd_zip (by rw [hkl]; exact Nat.le_refl _)] at z
      exact z
    have rvo : Vals ((ps.map Prod.snd).map L2.bkV) (ps.map Prod.snd) := L2.bkV_vals fun u hu => eu u (pz.mem_iff.mp hu)
    have hlo : ((ps.map Prod.snd).map L2.bkV).length ≤ sizeLine := by rw [List.length_map, pz.length_eq]; exact hz
    have I7 : Inv X pins σ (upd H' a (.lst ((ps.map Prod.snd).map L2.bkV))) { s' with heap := h' } := I6.take (h' := h') (t' := s'.toks) (fun b o _ e => e) (fp_at fa pa2) ⟨hlo, ps.map Prod.snd, n1, rvo, ha'⟩
    refine h _ _ _ I7 (fun b o e => ?_) upd_same ?_ ?_
    · rw [upd_ne (ne_of_none e fa.1)]
      exact hs' b o e
    · rw [ex]
      exact pz.map L2.bkV
    · rw [List.pairwise_map, List.pairwise_map]
      refine hsrt.imp_of_mem fun {p q} hpm hqm z => ?_
      have look : ∀ p ∈ ps, kOf s'.heap p.1 = key (L2.bkV p.2) := fun p hpm => by
        have hz' : p ∈ keys.toList.zip its := hp.mem_iff.mp hpm
        obtain ⟨j, hj⟩ := List.mem_iff_getElem?.mp hz'
        rw [List.getElem?_zip_eq_some] at hj
        obtain ⟨y, y1, _, y3⟩ := kat j p.1 p.2 hj.1 hj.2
        have e2 : xs[j]? = some (L2.bkV p.2) := by rw [ex, List.getElem?_map, hj.2] <;> rfl
        obtain rfl : y = L2.bkV p.2 := Option.some.inj (y1.symm.trans e2)
        exact y3.kOf
      rw [← look p hpm, ← look q hqm]
      exact z
end
end Nhp
/-! Rules that the layer lacks, 4: sorted(xs, key=lambda x: ..). -/
namespace Nhp
open PySem PySem.Spec PyProof.Rows L2 LamX NdefX
section
variable {X : Cx} {pins : List (Addr × Obj)} {σ : L2.St} {H : Hp} {s : Shared}
theorem sortedK_run {f l : Addr} {xs : List V} {key : V → Int × Int × Int} {Q : VK} {E : Value → Shared → Prop} (I : Inv X pins σ H s) (hs : SqL X.K H l xs) (href : ∀ x ∈ xs, ∃ b, x = V.ref b)
    (turn : ∀ (i : Nat) (y : V) (u : Value) (H' : Hp) (s' : Shared) (more : List (Addr × Obj)), xs[i]? = some y → RelV y u → Inv X (more ++ pins) σ H' s' → Same H H' →
      wpAny (model X.prog X.w) X.A.in1.in1 (call (.ref f) [u]) (EP X (more ++ pins) σ (KeyEnd key y H')) (fun _ _ => False) s')
    (h : ∀ (ys : List V) (p : Addr) (H' : Hp), Same H H' → H p = none → H' p = some (.lst ys) → ys.Perm xs → ys.Pairwise (fun x y => lex3 (key y) (key x) = false) → Q (.ref p) H') :
    wpAny (model X.prog X.w) X.A (call (.builtin "sorted") [.ref l] [(Str.ofString "key", .ref f)]) (EP X pins σ Q) E s := by
  obtain ⟨its, rv, hl, hz⟩ := I.list hs
  have hz : its.length ≤ sizeLine := by rw [← rv.length]; exact hz
  refine call_function_entry_kw kind_sorted plain_sorted entry_sorted (ksk_s1 _ _) ?_
  unfold Builtin.«sorted»
  refine wpAny_bind (m := checkCount "sorted" 1 1 _) (wpAny_pure ?_)
  refine wpAny_bind (collect_list hl.isList ?_ hz)
  refine wpAny_bind (wpAny_newList ?_ hz)
  have hsz : ((s.heap.push (seqObj "list" #[] 0)).update s.heap.objs.size (Obj.mapSeq (· ++ its.toArray))).objs.size = s.heap.objs.size + 1 := by
    rw [Heap.size_update, size_push']
  have hoL : (((s.heap.push (seqObj "list" #[] 0)).update s.heap.objs.size (Obj.mapSeq (· ++ its.toArray))).push (seqObj "list" its.toArray 0)).get? (s.heap.objs.size + 1) = some (seqObj "list" its.toArray 0) := by
    rw [← hsz]; exact Heap.get?_push_size _ rfl
  have keep : ∀ b o, s.heap.get? b = some o → (((s.heap.push (seqObj "list" #[] 0)).update s.heap.objs.size (Obj.mapSeq (· ++ its.toArray))).push (seqObj "list" its.toArray 0)).get? b = some o := fun b o q => by
    have hlt : b < s.heap.objs.size := Heap.lt_size q
    refine Heap.get?_push_of_some _ ?_
    rw [Heap.get?_update_ne _ _ _ _ (Nat.ne_of_lt hlt)]
    exact Heap.get?_push_of_some _ q
  show wpAny _ _ _ _ _ { s with heap := ((s.heap.push (seqObj "list" #[] 0)).update s.heap.objs.size (Obj.mapSeq (· ++ its.toArray))).push (seqObj "list" its.toArray 0) }
  rw [hsz]
  have I1 : Inv X pins σ H { s with heap := ((s.heap.push (seqObj "list" #[] 0)).update s.heap.objs.size (Obj.mapSeq (· ++ its.toArray))).push (seqObj "list" its.toArray 0) } := I.kept (t' := s.toks) keep
  have fa : FpOk X pins H (s.heap.objs.size + 1) := I.fpOk (H' := H) (Nat.le_succ _) (I.hok.fresh (Nat.le_succ _))
  refine wpAny_bind (wpAny_holding (wpAny_call_entry_kw slot_list_sort ⟨_, hoL, rfl⟩ entry_list_sort ?body (ksk_l1 _ _)))
  rw [ksk_t1]
  refine sortK_core (A := X.A.in1.in1) I1 fa hoL rv hz href turn fun ys H' s' I' hs' ha hp hq => ⟨_, rfl, ?_⟩
  exact wpAny_pure ⟨_, rfl, .ref _, H', I', rfl, h ys _ H' hs' fa.1 ha hp hq⟩
/-- the reading of sorted(e, key=lambda ps: body): tb, the lambda's body at its own names; key, what it tells of each item -/
def tSortedKey (K : PySem.W.Frag) (T : List (Addr × Str)) (N : List Str) (js : List Nat) (te tb : TE) : TE := fun σ H Q => te σ H fun x H0 => ∃ (l : Addr) (xs : List V) (key : V → Int × Int × Int), x = .ref l ∧ SqL K H0 l xs ∧ (∀ x ∈ xs, ∃ b, x = V.ref b) ∧ Tabs T H0 ∧
  ∀ H1, ExtN H0 H1 → Tabs T H1 → SqL K H1 l xs ∧ (∀ y ∈ xs, ∀ H', Same H1 H' → tb (startF N [y] (js.map (slotAt σ))) H' (KeyEnd key y H')) ∧
    ∀ (ys : List V) (p : Addr) (H' : Hp), Same H1 H' → H1 p = none → H' p = some (.lst ys) → ys.Perm xs → ys.Pairwise (fun x y => lex3 (key y) (key x) = false) → Q (.ref p) H'
theorem pe_sortedKey {T : List (Addr × Str)} {c P : Addr} {k : Nat} {a : Str} {params : Arguments} {body e : Expr} {scope : Scope} {p lpos kpos pos : Pos} {N fr : List Str} {js : List Nat} {te tb : TE}
    (hg : Gl X "sorted") (hm : X.mg "sorted" = none) (TB : TabB X.base X.mg c P) (hcode : X.env.code = .ref c) (hmT : (P, X.env.qual ++ "<lambda>") ∈ T) (hu : ∀ p ∈ T, p.1 = P → p.2 = X.env.qual ++ "<lambda>") (hr : Room (k + 3) X.A)
    (hdef : defaultsOf params X.env = ([], [])) (S : NScope N [a] fr scope) (hfree : ∀ y ∈ scope.names, y.2 = .free → X.env.scope.names.lookup y.1 = some .cell ∨ X.env.scope.names.lookup y.1 = some .free)
    (hfr : ∀ y ∈ fr, (y, NameKind.free) ∈ scope.names) (hjs : js.map (fun j => X.N[j]?) = fr.map some)
    (hbind : ∀ (q : Str) (cl : List (Str × Addr)) (pm cv ctv : Value) (us : List Value), us.length = 1 → bindArgs (PySem.W.kla_fn "<lambda>" q params body scope cl pm cv ctv) ⟨us, []⟩ = pure ([a].zip us))
    (he : PE X e te) (hbody : ∀ (f c' : Addr) (A : Around) (outer : List Env) (s : Shared) (H : Hp), Room k (A.deeper (envF (lamF (X.env.qual ++ "<lambda>") params scope (cloFrom X.env.cells scope.names []) c') f s.heap.objs.size)) →
      PE (ncx CX0 X.prog X.w X.K X.mg X.base N (lamF (X.env.qual ++ "<lambda>") params scope (cloFrom X.env.cells scope.names []) c') f A outer s H E0) body tb)
    (hst : starEach [e] X.env = (false, eval e X.env) :: starEach [] X.env := by rfl)
    (hse : backTo pos (starEach [e] X.env) = (false, eval e X.env) :: backTo pos (starEach [] X.env) := by rfl) (hpl : (backTo pos (starEach [e] X.env)).any (·.1) = false := by rfl) :
    PE X (.Call (.Name "sorted" p) [e] [⟨some "key", .Lambda params body scope lpos, kpos⟩] pos) (tSortedKey X.K T N js te tb) := by
  refine ⟨fun pins s σ H Q I h => ?_⟩
  refine wpAny_Call_Name_kw (ld_blt I hg hm (show bootBuiltins "sorted" = some (.builtin "sorted") from by decide +kernel) ?_)
  refine PyProof.Rows.callWith_kw ?_ hse hpl
  rw [hse]
  refine Calls.spliced_cons (thn (he.run pins s σ H _ I h) fun u s1 ⟨x, H1, I1, ru, q1⟩ => Calls.spliced_nil ?_)
  obtain ⟨l, xs, key, rfl, hl, href, hT, q1⟩ := q1
  obtain rfl : u = Value.ref l := ru
  show wpAny _ _ (evalAll ((do let v ← eval (.Lambda params body scope lpos) X.env; standAt pos; pure v) :: [])) _ _ s1
  refine wpAny_evalAll_cons (wpAny_bind (lam_make2 I1 TB hcode hmT hu hT hdef (fun y hy e => (hfree y hy e).elim (fun z => I1.ok.has _ (.inl z)) fun z => I1.ok.has _ (.inr z)) fun f c' pm ctv H2 s2 I2 eN T2 hf hfn hfr' hco => wpAny_bind (wpAny_standAt (wpAny_pure ?_))))
  refine wpAny_evalAll_nil ?_
  show wpAny (model X.prog X.w) X.A (call (.builtin "sorted") [.ref l] [(Str.ofString "key", .ref f)]) _ _ _
  obtain ⟨hl2, hb2, hq2⟩ := q1 H2 eN T2
  have I3 := lam_pin I2 hf hfn hfr'
  refine thn (sortedK_run (Q := Q) (E := X.xe) I3 hl2 href (fun i y u H' s' more hy ru I' hs' => ?_) fun ys p H' a1 a2 a3 a4 a5 => hq2 ys p H' a1 a2 a3 a4 a5) fun v s3 ⟨v', H3, I4, rv, q⟩ => ⟨v', H3, unpin I4, rv, q⟩
  have pf := (I'.pin (f, PySem.W.kla_obj "<lambda>" (X.env.qual ++ "<lambda>") params body scope (cloFrom X.env.cells scope.names []) pm c' ctv) (List.mem_append_right _ (List.mem_append_right _ (List.mem_cons_self ..)))).1
  have hr2 : Room (k + 1) X.A.in1.in1 := (hr.in1).in1
  exact lam_call (A := X.A.in1.in1) (k := k) I'.env0.in1.in1 hr2 I' pf (hs' _ _ hco) S (Caps.made I'.ok hfree hfr hjs) (fun us hl => hbind _ _ _ _ _ us hl) (.cons ru .nil) rfl (fun outer s H hrr => hbody f c' _ outer s H hrr) (hb2 y (List.mem_of_getElem? hy) H' hs')
end
end Nhp
/-! Rules that the layer lacks, 5: max(xs, key=lambda x: .., default=None). -/
namespace Nhp
open PySem PySem.Spec PyProof.Rows L2 LamX NdefX
theorem maxd_ok (a v d : Value) : argsOk "max" ⟨[a], [(Str.ofString "key", v), (Str.ofString "default", d)]⟩ := by unfold argsOk; kernel_rfl
abbrev KeyEndI (key : V → Int) (y : V) (H' : Hp) : VK := fun v H'' => Same H' H'' ∧ v = .int (key y)
/-- the i-th is the first of the greatest among the first n -/
def Best (key : V → Int) (xs : List V) (n i : Nat) : Prop := i < n ∧ ∀ j (x y : V), j < n → xs[i]? = some x → xs[j]? = some y → key y ≤ key x ∧ (j < i → key y < key x)
section
variable {X : Cx} {pins : List (Addr × Obj)} {σ : L2.St} {H : Hp} {s : Shared}
theorem unpin2 {p q : Addr × Obj} (I : Inv X (p :: q :: pins) σ H s) : Inv X pins σ H s := unpin (unpin I)
theorem pin_swap {p q : Addr × Obj} (I : Inv X (p :: q :: pins) σ H s) : Inv X (q :: p :: pins) σ H s := I.pins_of fun r hr => I.pin r (by
  rcases List.mem_cons.mp hr with e | hr
  · exact List.mem_append_right _ (by simp [e])
  · rcases List.mem_cons.mp hr with e | hr
    · exact List.mem_append_right _ (by simp [e])
    · exact List.mem_append_right _ (by simp [hr]))
theorem maxK_loop {A : Around} {f : Addr} {l It S : Addr} {its : List Value} {xs : List V} {key : V → Int} {R : Result → Shared → Prop} (hh : A.handled = none) (fI : FpOk X pins H It) (fS : FpOk X pins H S) (hSI : S ≠ It) (hlI : l ≠ It) (rv : Vals xs its) (hz : its.length ≤ sizeLine)
    (hl : ∀ (H' : Hp) (s' : Shared) (more : List (Addr × Obj)), Inv X (more ++ pins) σ H' s' → Same H H' → s'.heap.IsList l its.toArray)
    (turn : ∀ (i : Nat) (y : V) (u : Value) (H' : Hp) (s' : Shared) (more : List (Addr × Obj)), xs[i]? = some y → RelV y u → Inv X (more ++ pins) σ H' s' → Same H H' →
      wpAny (model X.prog X.w) A.in1 (call (.ref f) [u]) (EP X (more ++ pins) σ (KeyEndI key y H')) (fun _ _ => False) s')
    (hN : xs = [] → ∀ (H' : Hp) (s' : Shared), Inv X pins σ H' s' → Same H H' → R (.ok (.ret .none)) s')
    (hR : ∀ (i : Nat) (y : V) (u : Value) (H' : Hp) (s' : Shared), xs[i]? = some y → RelV y u → Best key xs xs.length i → Inv X pins σ H' s' → Same H H' → R (.ok (.ret u)) s') :
    ∀ (r j : Nat) (cur : Array Value) (c : Nat) (oI : Obj) (H' : Hp) (s' : Shared), xs.length - j = r → j ≤ xs.length → Inv X ((S, seqObj "list" cur c) :: (It, oI) :: pins) σ H' s' → Same H H' → s'.heap.IsListIter It l j →
      ((j = 0 ∧ cur = #[]) ∨ ∃ (i : Nat) (y : V) (u : Value) (t : Tok), xs[i]? = some y ∧ RelV y u ∧ Best key xs j i ∧ cur = #[u, .int (key y) t]) →
      codeAny (model X.prog X.w) A (.builtin "max.loop" ⟨[.ref It, .ref f, .ref S], [(Str.ofString "default", .none)]⟩) R s' := by
  have hname : (toString "max" ++ toString ".loop" : String) = "max.loop" := by decide
  have hlen : xs.length = its.length := rv.length
  have nc : ∀ (xs : Array Value) (k : Nat) (v : Option Value), (seqObj "list" xs k).data ≠ .cell v := fun xs k v z => by cases z
  have gI : ∀ {o : Obj} {j : Nat}, o.data = .fields #[.ref l, .int j 0] → ∀ v, o.data ≠ .cell v := fun e v z => by rw [e] at z; cases z
  intro r
  induction r with
  | zero =>
    intro j cur c oI H' s' hr hj I' hs' hit hcur
    have hjl : j = xs.length := by omega
    obtain ⟨pS1, pS2, _⟩ := I'.pin (S, seqObj "list" cur c) (List.mem_append_right _ (List.mem_cons_self ..))
    obtain ⟨pI1, pI2, _⟩ := I'.pin (It, oI) (List.mem_append_right _ (List.mem_cons_of_mem _ (List.mem_cons_self ..)))
    refine codeAny_builtin PySem.F.entry_max_loop ?_
    rw [Around.under_plainId PySem.F.plain_max_loop _]
    show wpAny _ A.in1 (seqItems? (.ref S) >>= _) _ _ _
    refine wpAny_bind (wpAny_seqItems pS1 rfl ?_)
    show wpAny _ A.in1 (tryCatch (pyNext (.ref It)) _ >>= _) _ _ _
    refine wpAny_bind (wpAny_tryCatch (wpAny_pyNext_list_end hh hit (hl H' s' [(S, seqObj "list" cur c), (It, oI)] I' hs') (by rw [hjl, hlen]; simp) fun h' hk' => ?_))
    have I1 : Inv X ((S, seqObj "list" cur c) :: pins) σ H' { s' with heap := h' } := turn1 (t' := s'.toks) (unpin (pin_swap I')) (fun b o hb e => hk' b o hb e) (fp_more (fp_at fI pI2) hSI)
    obtain ⟨qS1, qS2, _⟩ := I1.pin (S, seqObj "list" cur c) (List.mem_append_right _ (List.mem_cons_self ..))
    rcases hcur with ⟨e0, rfl⟩ | ⟨i, y, u, t, hy, ru, hb, rfl⟩
    · show wpAny _ A.in1 (rule _ >>= _) _ _ _
      exact wpAny_bind (wpAny_rule (wpAny_pure (hN (List.eq_nil_of_length_eq_zero (by omega)) H' _ (unpin I1) hs')))
    · show wpAny _ A.in1 (updateSeq S (fun _ => #[]) >>= _) _ _ _
      have sb := Heap.SameBut.update h' S (Obj.mapSeq fun _ => (#[] : Array Value))
      refine wpAny_bind (wpAny_updateSeq qS1 rfl (wpAny_bind (wpAny_letGo (wpAny_pure ?_))))
      have I2 : Inv X pins σ H' { s' with heap := h'.update S (Obj.mapSeq fun _ => #[]) } := turn1 (s := { s' with heap := h' }) (t' := s'.toks) (unpin I1) (fun b o hb e => (sb.2 b hb).trans e) (fp_at fS qS2)
      exact hR i y u H' _ hy ru (by rw [← hjl]; exact hb) I2 hs'
  | succ r ih =>
    intro j cur c oI H' s' hr hj I' hs' hit hcur
    have hjl : j < xs.length := by omega
    have hy : xs[j]? = some xs[j] := List.getElem?_eq_getElem hjl
    obtain ⟨u, hu, ru⟩ := rv.get hy
    obtain ⟨pS1, pS2, _⟩ := I'.pin (S, seqObj "list" cur c) (List.mem_append_right _ (List.mem_cons_self ..))
    obtain ⟨pI1, pI2, _⟩ := I'.pin (It, oI) (List.mem_append_right _ (List.mem_cons_of_mem _ (List.mem_cons_self ..)))
    refine codeAny_builtin PySem.F.entry_max_loop ?_
    rw [Around.under_plainId PySem.F.plain_max_loop _]
    show wpAny _ A.in1 (seqItems? (.ref S) >>= _) _ _ _
    refine wpAny_bind (wpAny_seqItems pS1 rfl ?_)
    show wpAny _ A.in1 (tryCatch (pyNext (.ref It)) _ >>= _) _ _ _
    refine wpAny_bind (wpAny_tryCatch (wpAny_pyNext_list_item hit (hl H' s' [(S, seqObj "list" cur c), (It, oI)] I' hs') (x := u) (by simpa using hu) fun h' hit' sb0 => ?_))
    obtain ⟨oI', hoI', hoc, hod⟩ := id hit'
    have I1 : Inv X ((S, seqObj "list" cur c) :: pins) σ H' { s' with heap := h' } := turn1 (t' := s'.toks) (unpin (pin_swap I')) (fun b o hb e => (sb0.2 b hb).trans e) (fp_more (fp_at fI pI2) hSI)
    have I1' : Inv X ((It, oI') :: (S, seqObj "list" cur c) :: pins) σ H' { s' with heap := h' } := pin_more (p := (It, oI')) I1 (fp_more (fp_at fI pI2) hSI) hoI' (gI hod)
    show wpAny _ A.in1 (tryCatch (holding [u] (call (.ref f) [u])) _ >>= _) _ _ _
    refine wpAny_bind (wpAny_tryCatch (wpAny_holding (wpAny_mono (turn j _ u H' _ [(It, oI'), (S, seqObj "list" cur c)] hy ru I1' hs') (fun v s2 he => ?_) fun _ _ hF => hF.elim)))
    obtain ⟨v', H2, I2, rv2, hs2, rfl⟩ := he
    obtain ⟨t2, rfl⟩ := rv2
    have I2 : Inv X ((It, oI') :: (S, seqObj "list" cur c) :: pins) σ H2 s2 := I2
    have hs3 : Same H H2 := hs'.trans hs2
    obtain ⟨qS1, qS2, _⟩ := I2.pin (S, seqObj "list" cur c) (List.mem_append_right _ (List.mem_cons_of_mem _ (List.mem_cons_self ..)))
    obtain ⟨qI1, qI2, _⟩ := I2.pin (It, oI') (List.mem_append_right _ (List.mem_cons_self ..))
    -- the store is written anew
    have put : ∀ (g : Array Value) (hg : g.size ≤ 2), cur.size ≤ 2 → ∃ c', Inv X ((S, seqObj "list" g c') :: (It, oI') :: pins) σ H2 { s2 with heap := s2.heap.update S (Obj.mapSeq fun _ => g) } ∧ (s2.heap.update S (Obj.mapSeq fun _ => g)).IsListIter It l (j + 1) := fun g hg _ => by
      have sb := Heap.SameBut.update s2.heap S (Obj.mapSeq fun _ => g)
      have I3 : Inv X ((It, oI') :: pins) σ H2 { s2 with heap := s2.heap.update S (Obj.mapSeq fun _ => g) } := turn1 (t' := s2.toks) (unpin (pin_swap I2)) (fun b o hb e => (sb.2 b hb).trans e) (fp_more (fp_at fS qS2) hSI.symm)
      exact ⟨_, pin_more (p := (S, seqObj "list" g _)) I3 (fp_more (fp_at fS qS2) hSI.symm) (get?_update_seq qS1 fun _ => g) (nc _ _), oI', (sb.2 It hSI.symm).trans qI1, hoc, hod⟩
    rcases hcur with ⟨rfl, rfl⟩ | ⟨i, y, ub, t, hyi, rui, hb, rfl⟩
    · show wpAny _ A.in1 (updateSeq S (fun _ => #[u, .int (key xs[0]) t2]) >>= _) _ _ _
      obtain ⟨c', I4, hit4⟩ := put #[u, .int (key xs[0]) t2] (Nat.le_refl 2) (by first | exact Nat.le_refl 2 | exact Nat.zero_le 2)
      refine wpAny_bind (wpAny_updateSeq qS1 rfl ?_)
      rw [hname]
      refine wpAny_pure ⟨plainId_quiet PySem.F.plain_max_loop _, ih 1 _ c' oI' H2 _ (by omega) hjl I4 hs3 hit4 (.inr ⟨0, _, u, t2, hy, ru, ⟨by omega, fun j x y hj hx hy => ?_⟩, rfl⟩)⟩
      obtain rfl : j = 0 := by omega
      rw [hx] at hy
      obtain rfl := Option.some.inj hy
      exact ⟨Int.le_refl _, fun h => absurd h (Nat.lt_irrefl _)⟩
    · show wpAny _ A.in1 (tryCatch (holding [u, .int (key xs[j]) t2] (richCompare .Gt (.int (key xs[j]) t2) (.int (key y) t) >>= _)) _ >>= _) _ _ _
      refine wpAny_bind (wpAny_tryCatch (wpAny_holding (wpAny_bind (show wpAny _ _ (compareOp .Gt (.int (key xs[j]) t2) (.int (key y) t)) _ _ _ from PyProof.Rows.gt_int ?_))))
      refine wpAny_bind (wpAny_holding (wpAny_truthy_bool ?_))
      refine wpAny_bind (wpAny_letGo (wpAny_pure ?_))
      by_cases hbt : key y < key xs[j]
      · obtain ⟨c', I4, hit4⟩ := put #[u, .int (key xs[j]) t2] (Nat.le_refl 2) (by first | exact Nat.le_refl 2 | exact Nat.zero_le 2)
        simp only [hbt, decide_true, if_true]
        refine wpAny_bind ?_
        refine wpAny_updateSeq qS1 rfl (wpAny_bind (wpAny_letGo ?_))
        rw [hname]
        refine wpAny_pure ⟨plainId_quiet PySem.F.plain_max_loop _, ih (j + 1) _ c' oI' H2 _ (by omega) hjl I4 hs3 hit4 (.inr ⟨j, _, u, t2, hy, ru, ⟨by omega, fun j' x z hj' hx hz => ?_⟩, rfl⟩)⟩
        rw [hy] at hx
        obtain rfl := Option.some.inj hx
        by_cases e : j' = j
        · subst e
          rw [hy] at hz
          obtain rfl := Option.some.inj hz
          exact ⟨Int.le_refl _, fun h => absurd h (Nat.lt_irrefl _)⟩
        · have q := (hb.2 j' y z (by omega) hyi hz).1
          exact ⟨by omega, fun _ => by omega⟩
      · simp only [hbt, decide_false, Bool.false_eq_true, if_false]
        refine wpAny_bind (wpAny_letGo ?_)
        rw [hname]
        refine wpAny_pure ⟨plainId_quiet PySem.F.plain_max_loop _, ih (j + 1) _ c oI' H2 _ (by omega) hjl (pin_swap I2) hs3 ⟨oI', qI1, hoc, hod⟩ (.inr ⟨i, y, ub, t, hyi, rui, ⟨by have := hb.1; omega, fun j' x z hj' hx hz => ?_⟩, rfl⟩)⟩
        rw [hyi] at hx
        obtain rfl := Option.some.inj hx
        by_cases e : j' = j
        · subst e
          rw [hy] at hz
          obtain rfl := Option.some.inj hz
          have := hb.1
          exact ⟨by omega, fun h => by omega⟩
        · exact hb.2 j' y z (by omega) hyi hz
theorem refs_one : ∀ {xs : List V} {us ws : List Value}, Vals xs us → Vals xs ws → (∀ x ∈ xs, ∃ b, x = V.ref b) → us = ws
  | _, _, _, .nil, .nil, _ => rfl
  | _, _, _, .cons r1 t1, .cons r2 t2, h => by
    obtain ⟨b, rfl⟩ := h _ (List.mem_cons_self ..)
    cases r1
    cases r2
    rw [refs_one t1 t2 fun x hx => h x (List.mem_cons_of_mem _ hx)]
theorem maxK_run {f l : Addr} {xs : List V} {key : V → Int} {Q : VK} {E : Value → Shared → Prop} (hc : X.calm = true) (I : Inv X pins σ H s) (hs : SqL X.K H l xs) (href : ∀ x ∈ xs, ∃ b, x = V.ref b)
    (turn : ∀ (i : Nat) (y : V) (u : Value) (H' : Hp) (s' : Shared) (more : List (Addr × Obj)), xs[i]? = some y → RelV y u → Inv X (more ++ pins) σ H' s' → Same H H' →
      wpAny (model X.prog X.w) X.A.in1 (call (.ref f) [u]) (EP X (more ++ pins) σ (KeyEndI key y H')) (fun _ _ => False) s')
    (hN : xs = [] → ∀ H', Same H H' → Q .non H') (hR : ∀ (i : Nat) (y : V) (H' : Hp), xs[i]? = some y → Best key xs xs.length i → Same H H' → Q y H') :
    wpAny (model X.prog X.w) X.A (call (.builtin "max") [.ref l] [(Str.ofString "key", .ref f), (Str.ofString "default", .none)]) (EP X pins σ Q) E s := by
  have hname : (toString "max" ++ toString ".loop" : String) = "max.loop" := by decide
  obtain ⟨its, rv, hl, hz⟩ := I.list hs
  have hz : its.length ≤ sizeLine := by rw [← rv.length]; exact hz
  obtain ⟨ol, hol, _⟩ := id hl.isList
  have hll : l < s.heap.objs.size := Heap.lt_size hol
  refine kmk_tree PySem.F.kind_max PySem.F.plain_max PySem.F.entry_max (maxd_ok _ _ _) ?_
  show wpAny _ X.A.in1 (Builtin.Builtins.bindParams "max" ["key", "default"] 0 ⟨[], [(Str.ofString "key", .ref f), (Str.ofString "default", .none)]⟩ >>= _) _ _ s
  refine wpAny_bind (wpAny_of_eq (show Builtin.Builtins.bindParams "max" ["key", "default"] 0 ⟨[], [(Str.ofString "key", .ref f), (Str.ofString "default", .none)]⟩ = pure [some (.ref f), some .none] from rfl) ?_)
  refine wpAny_bind (wpAny_pure ?_)
  refine wpAny_bind (wpAny_pyIter_list hl.isList ?_)
  refine wpAny_bind (wpAny_newList ?_ (Nat.zero_le _))
  rw [hname]
  have I1 : Inv X pins σ H { s with heap := s.heap.push { cls := .type "list_iterator", data := .fields #[.ref l, .int 0 0] } } := I.kept (t' := s.toks) fun b o e => Heap.get?_push_of_some _ e
  have fI : FpOk X pins H s.heap.objs.size := I.fpOk (H' := H) (Nat.le_refl _) (I.hok.fresh (Nat.le_refl _))
  have fS : FpOk X pins H (s.heap.push { cls := .type "list_iterator", data := .fields #[.ref l, .int 0 0] }).objs.size := I1.fpOk (H' := H) (Nat.le_refl _) (I1.hok.fresh (Nat.le_refl _))
  have hS : (s.heap.push { cls := .type "list_iterator", data := .fields #[.ref l, .int 0 0] }).objs.size = s.heap.objs.size + 1 := size_push' ..
  have hSI : (s.heap.push { cls := .type "list_iterator", data := .fields #[.ref l, .int 0 0] }).objs.size ≠ s.heap.objs.size := by rw [hS]; exact Nat.ne_of_gt (Nat.lt_succ_self _)
  have gI : ((s.heap.push { cls := .type "list_iterator", data := .fields #[.ref l, .int 0 0] }).push (seqObj "list" #[] 0)).get? s.heap.objs.size = some { cls := .type "list_iterator", data := .fields #[.ref l, .int 0 0] } :=
    Heap.get?_push_of_some _ (Heap.get?_push_size _ rfl)
  have gS : ((s.heap.push { cls := .type "list_iterator", data := .fields #[.ref l, .int 0 0] }).push (seqObj "list" #[] 0)).get? (s.heap.push { cls := .type "list_iterator", data := .fields #[.ref l, .int 0 0] }).objs.size = some (seqObj "list" #[] 0) := Heap.get?_push_size _ rfl
  have I2 : Inv X pins σ H { s with heap := (s.heap.push { cls := .type "list_iterator", data := .fields #[.ref l, .int 0 0] }).push (seqObj "list" #[] 0) } := I1.kept (t' := s.toks) fun b o e => Heap.get?_push_of_some _ e
  have I3 := pin_more (p := (s.heap.objs.size, { cls := .type "list_iterator", data := .fields #[.ref l, .int 0 0] })) I2 fI gI (fun v z => by cases z)
  have I4 := pin_more (p := ((s.heap.push { cls := .type "list_iterator", data := .fields #[.ref l, .int 0 0] }).objs.size, seqObj "list" #[] 0)) I3 (fp_more fS hSI.symm) gS (fun v z => by cases z)
  refine wpAny_pure ⟨plainId_quiet PySem.F.plain_max_loop _, ?_⟩
  exact maxK_loop (A := X.A) (I.ok.hd hc) fI fS hSI (Nat.ne_of_lt hll) rv hz (fun H' s' more I' hs' => by
      obtain ⟨its2, rv2, hl2, _⟩ := I'.list (hs'.seq hs)
      rw [refs_one rv rv2 href]
      exact hl2.isList) turn
    (fun e H' s' I' hs' => ⟨.non, H', I', rfl, hN e H' hs'⟩) (fun i y u H' s' hy ru hb I' hs' => ⟨y, H', I', ru, hR i y H' hy hb hs'⟩) _ 0 #[] 0 _ H _ rfl (Nat.zero_le _) I4 (Same.refl H) ⟨_, gI, rfl, rfl⟩ (.inl ⟨rfl, rfl⟩)
end
end Nhp
/-! Rules that the layer lacks, 6: the expression max(e, key=lambda x: .., default=None); len(set(xs)) of ints. -/
namespace Nhp
open PySem PySem.Spec PyProof.Rows L2 LamX NdefX
section
variable {X : Cx} {pins : List (Addr × Obj)} {σ : L2.St} {H : Hp} {s : Shared}
def tMaxKey (K : PySem.W.Frag) (T : List (Addr × Str)) (N : List Str) (js : List Nat) (te tb : TE) : TE := fun σ H Q => te σ H fun x H0 => ∃ (l : Addr) (xs : List V) (key : V → Int), x = .ref l ∧ SqL K H0 l xs ∧ (∀ x ∈ xs, ∃ b, x = V.ref b) ∧ Tabs T H0 ∧
  ∀ H1, ExtN H0 H1 → Tabs T H1 → SqL K H1 l xs ∧ (∀ y ∈ xs, ∀ H', Same H1 H' → tb (startF N [y] (js.map (slotAt σ))) H' (KeyEndI key y H')) ∧
    (xs = [] → ∀ H', Same H1 H' → Q .non H') ∧ ∀ (i : Nat) (y : V) (H' : Hp), xs[i]? = some y → Best key xs xs.length i → Same H1 H' → Q y H'
theorem pe_maxKey {T : List (Addr × Str)} {c P : Addr} {k : Nat} {a : Str} {params : Arguments} {body e : Expr} {scope : Scope} {p lpos kpos cpos dpos pos : Pos} {j0 : Nat} {N fr : List Str} {js : List Nat} {te tb : TE}
    (hcalm : X.calm = true) (hg : Gl X "max") (hm : X.mg "max" = none) (TB : TabB X.base X.mg c P) (hcode : X.env.code = .ref c) (hmT : (P, X.env.qual ++ "<lambda>") ∈ T) (hu : ∀ p ∈ T, p.1 = P → p.2 = X.env.qual ++ "<lambda>") (hr : Room (k + 2) X.A)
    (hdef : defaultsOf params X.env = ([], [])) (S : NScope N [a] fr scope) (hfree : ∀ y ∈ scope.names, y.2 = .free → X.env.scope.names.lookup y.1 = some .cell ∨ X.env.scope.names.lookup y.1 = some .free)
    (hfr : ∀ y ∈ fr, (y, NameKind.free) ∈ scope.names) (hjs : js.map (fun j => X.N[j]?) = fr.map some)
    (hbind : ∀ (q : Str) (cl : List (Str × Addr)) (pm cv ctv : Value) (us : List Value), us.length = 1 → bindArgs (PySem.W.kla_fn "<lambda>" q params body scope cl pm cv ctv) ⟨us, []⟩ = pure ([a].zip us))
    (he : PE X e te) (hbody : ∀ (f c' : Addr) (A : Around) (outer : List Env) (s : Shared) (H : Hp), Room k (A.deeper (envF (lamF (X.env.qual ++ "<lambda>") params scope (cloFrom X.env.cells scope.names []) c') f s.heap.objs.size)) →
      PE (ncx CX0 X.prog X.w X.K X.mg X.base N (lamF (X.env.qual ++ "<lambda>") params scope (cloFrom X.env.cells scope.names []) c') f A outer s H E0) body tb)
    (hse : backTo pos (starEach [e] X.env) = (false, eval e X.env) :: backTo pos (starEach [] X.env) := by rfl) (hpl : (backTo pos (starEach [e] X.env)).any (·.1) = false := by rfl) :
    PE X (.Call (.Name "max" p) [e] [⟨some "key", .Lambda params body scope lpos, kpos⟩, ⟨some "default", .Constant .none j0 cpos, dpos⟩] pos) (tMaxKey X.K T N js te tb) := by
  refine ⟨fun pins s σ H Q I h => ?_⟩
  refine wpAny_Call_Name_kw (ld_blt I hg hm (show bootBuiltins "max" = some (.builtin "max") from by decide +kernel) ?_)
  refine PyProof.Rows.callWith_kw ?_ hse hpl
  rw [hse]
  refine Calls.spliced_cons (thn (he.run pins s σ H _ I h) fun u s1 ⟨x, H1, I1, ru, q1⟩ => Calls.spliced_nil ?_)
  obtain ⟨l, xs, key, rfl, hl, href, hT, q1⟩ := q1
  obtain rfl : u = Value.ref l := ru
  show wpAny _ _ (evalAll ((do let v ← eval (.Lambda params body scope lpos) X.env; standAt pos; pure v) :: (do let v ← eval (.Constant .none j0 cpos) X.env; standAt pos; pure v) :: [])) _ _ s1
  refine wpAny_evalAll_cons (wpAny_bind (lam_make2 I1 TB hcode hmT hu hT hdef (fun y hy e => (hfree y hy e).elim (fun z => I1.ok.has _ (.inl z)) fun z => I1.ok.has _ (.inr z)) fun f c' pm ctv H2 s2 I2 eN T2 hf hfn hfr' hco => wpAny_bind (wpAny_standAt (wpAny_pure ?_))))
  refine wpAny_evalAll_cons (wpAny_bind (Constant_none (wpAny_bind (wpAny_standAt (wpAny_pure ?_)))))
  refine wpAny_evalAll_nil ?_
  show wpAny (model X.prog X.w) X.A (call (.builtin "max") [.ref l] [(Str.ofString "key", .ref f), (Str.ofString "default", .none)]) _ _ _
  obtain ⟨hl2, hb2, hn2, hq2⟩ := q1 H2 eN T2
  have I3 := lam_pin I2 hf hfn hfr'
  refine thn (maxK_run (Q := Q) (E := X.xe) hcalm I3 hl2 href (fun i y u H' s' more hy ru I' hs' => ?_) hn2 hq2) fun v s3 ⟨v', H3, I4, rv, q⟩ => ⟨v', H3, unpin I4, rv, q⟩
  have pf := (I'.pin (f, PySem.W.kla_obj "<lambda>" (X.env.qual ++ "<lambda>") params body scope (cloFrom X.env.cells scope.names []) pm c' ctv) (List.mem_append_right _ (List.mem_append_right _ (List.mem_cons_self ..)))).1
  have hr2 : Room (k + 1) X.A.in1 := hr.in1
  exact lam_call (A := X.A.in1) (k := k) I'.env0.in1 hr2 I' pf (hs' _ _ hco) S (Caps.made I'.ok hfree hfr hjs) (fun us hl => hbind _ _ _ _ _ us hl) (.cons ru .nil) rfl (fun outer s H hrr => hbody f c' _ outer s H hrr) (hb2 y (List.mem_of_getElem? hy) H' hs')
/-! ### len(set(xs)) of ints: whether all are different -/
theorem firstMet_len (ns : List Int) : ∀ i, i ≤ ns.length → ((firstMet (fun i => ns.getD i 0) i).length = i ↔ (ns.take i).Nodup) ∧ (firstMet (fun i => ns.getD i 0) i).length ≤ i ∧ ∀ x, x ∈ firstMet (fun i => ns.getD i 0) i ↔ x ∈ ns.take i
  | 0, _ => ⟨⟨fun _ => by simp, fun _ => rfl⟩, Nat.le_refl _, fun x => by simp [firstMet]⟩
  | i + 1, hi => by
    have hlt : i < ns.length := hi
    obtain ⟨h1, h2, h3⟩ := firstMet_len ns i (Nat.le_of_lt hlt)
    have e : ns.getD i 0 = ns[i] := by rw [List.getD_eq_getElem?_getD, List.getElem?_eq_getElem hlt] <;> rfl
    have et : ns.take (i + 1) = ns.take i ++ [ns[i]] := by rw [List.take_succ, List.getElem?_eq_getElem hlt] <;> rfl
    rw [firstMet_succ, et]
    unfold step_dedup
    by_cases c : (firstMet (fun i => ns.getD i 0) i).any (· == ns.getD i 0) = true
    · rw [if_pos c]
      have hm : ns[i] ∈ ns.take i := by
        obtain ⟨x, hx, e2⟩ := List.any_eq_true.mp c
        have ex : x = ns[i] := by rw [← e]; exact beq_iff_eq.mp e2
        rw [← ex]
        exact (h3 x).mp hx
      refine ⟨⟨fun z => by omega, fun z => ?_⟩, by omega, fun x => ?_⟩
      · exact absurd (List.nodup_append.mp z).2.2 (fun q => q _ hm _ (List.mem_singleton.mpr rfl) rfl)
      · rw [h3 x, List.mem_append, List.mem_singleton]
        exact ⟨fun q => .inl q, fun q => by rcases q with q | q; exact q; rw [q]; exact hm⟩
    · rw [if_neg c, e]
      have hm : ¬ ns[i] ∈ ns.take i := fun z => c (List.any_eq_true.mpr ⟨ns[i], (h3 _).mpr z, by rw [e]; exact beq_self_eq_true _⟩)
      refine ⟨?_, by rw [List.length_append, List.length_singleton]; omega, fun x => by rw [List.mem_append, List.mem_append, h3 x]⟩
      rw [List.length_append, List.length_singleton]
      refine ⟨fun z => List.nodup_append.mpr ⟨h1.mp (by omega), by simp, fun a ha b hb q => hm (by rw [← List.mem_singleton.mp hb, ← q]; exact ha)⟩, fun z => by rw [h1.mpr (List.nodup_append.mp z).1]⟩
def tLenSetA (K : PySem.W.Frag) (ta : TE) : TE := fun σ H Q => ta σ H fun x H1 => ∃ (l : Addr) (ns : List Int), x = V.ref l ∧ SqL K H1 l (ns.map V.int) ∧ ns.length < 64 ∧ ∀ n : Nat, (n = ns.length ↔ ns.Nodup) → Q (.int n) H1
theorem pe_lenSetA {a : Expr} {ta : TE} {p p2 q pos : Pos} (hc : X.calm = true) (hg : Gl X "len") (hm : X.mg "len" = none) (hg2 : Gl X "set") (hm2 : X.mg "set" = none) (ha : PE X a ta)
    (na : starEach [a] X.env = (false, eval a X.env) :: starEach [] X.env := by rfl) : PE X (.Call (.Name "len" p) [.Call (.Name "set" p2) [a] [] q] [] pos) (tLenSetA X.K ta) := by
  refine ⟨fun pins s σ H Q I h => ?_⟩
  refine Call_ (ld_blt I hg hm PySem.boot_len ?_)
  refine PyProof.Rows.callWith_builtin1 (PyProof.Rows.args_cons ?_ rfl) rfl rfl
  refine Call_ (ld_blt I hg2 hm2 PyProof.Rows.boot_set ?_)
  refine PyProof.Rows.callWith_type1 (PyProof.Rows.args_cons (thn (ha.run pins s σ H _ I h) fun v s1 ⟨x, H1, I1, r1, q1⟩ => PyProof.Rows.args_nil ?_) na) na rfl
  obtain ⟨l, ns, rfl, hq, h1, q1⟩ := q1
  cases r1
  obtain ⟨its, r, pl, hz⟩ := I1.list hq
  have hl : its.toArray.size = ns.length := by rw [List.size_toArray, ← r.length, List.length_map]
  refine call_set_list (I1.ok.hd hc) pl.isList (ns := ns) (by simpa using r.ints) (by unfold scanBound; omega) fun h' tk hS hk => ?_
  obtain ⟨k1, k2, _⟩ := firstMet_len ns ns.length (Nat.le_refl _)
  rw [hl] at hS
  refine PyProof.Rows.args_nil ?_
  obtain ⟨o, es, ep, t, ho, hex, hd, _, _, _, hf, hn⟩ := hS
  have I2 : Inv X pins σ H1 { s1 with heap := h', toks := tk } := I1.kept fun b o e => hk b o (Heap.lt_size e) e
  refine call_len_set ho hex hd hf (by rw [hn] <;> omega) ⟨.int _, H1, I2.tok _, ⟨_, by rw [hn]⟩, q1 _ ?_⟩
  rw [k1, List.take_length]
end
end Nhp
/-! The end of a Spec row whose program makes lambdas: tables of code objects are tracked from the start. -/
namespace Nhp
open PySem PySem.Spec PyProof.Rows L2 LamX
open PySem.W (WData Codec OpenSpec Well WellAll ReadsW ReadsAllW)
section
variable {K : PySem.W.Frag} {H H' : Hp}
theorem sqT_same {a : Addr} {xs : List V} (e : Same H H') (h : SqT K H a xs) : SqT K H' a xs := by
  rcases h with (h | ⟨o, h⟩) | h
  · exact .inl (.inl (e _ _ h))
  · exact .inl (.inr ⟨o, e _ _ h⟩)
  · exact .inr h
mutual
theorem dw_same (e : Same H H') : ∀ (d : WData) (v : V), Dw K H v d → Dw K H' v d
  | .none, _, x => by cases x; exact .non
  | .bool b, _, x => by cases x; exact .bl b
  | .int i, _, x => by cases x; exact .int i
  | .str s, _, x => by cases x; exact .str s
  | .bytes b, _, x => by
    cases x
    rename_i b
    exact .byt b
  | .list ds, _, x => by
    cases x with
    | lst hs ha => exact .lst (e.seq hs) (dw_sames e ds _ ha)
  | .tuple ds, _, x => by
    cases x with
    | tup hs ha => exact .tup (sqT_same e hs) (dw_sames e ds _ ha)
  | .float _, _, x => by cases x
  | .dict _, _, x => by cases x
  | .bytearray _, _, x => by cases x
  | .set _, _, x => by cases x
  | .frozenset _, _, x => by cases x
  | .obj _ _, _, x => by cases x
theorem dw_sames (e : Same H H') : ∀ (ds : List WData) (vs : List V), DwAll K H vs ds → DwAll K H' vs ds
  | [], _, x => by cases x; exact .nil
  | d :: ds, _, x => by
    cases x with
    | cons h1 h2 => exact .cons (dw_same e d _ h1) (dw_sames e ds _ h2)
end
end
abbrev tblO : Obj := { cls := .none, data := .fields #[] }
theorem spec_callT {P : Program} {w : World} {K : PySem.W.Frag} {mg mb : Str → Option Value} {CX : CXT} {k : Nat} {fa : Addr} {fd : FuncData} {ps : List Str} {sp : Sp} {s₁ : Shared} {vals : List Value} {ds : List WData} {R : PySem.W.WRecords} {cl : Str → Option Addr} {d0 : WData} {cs : List (Addr × Addr)}
    (KX : K.In s₁.heap) (hns : s₁.heap.Ns mainGlobals mg) (hb : s₁.heap.Ns builtinsNs mb) (hbb : ∀ x : Str, x ≠ "__name__" → mb x = bootBuiltins x) (hlim : s₁.heap.NoLimit) (hg : s₁.gens = #[])
    (hT : ∀ p ∈ cs, s₁.heap.get? p.2 = some tblO) (nT : ∀ p ∈ cs, K.lookup p.2 = none) (C : ∀ p ∈ cs, PySem.W.CodeHd s₁.heap p.1 p.2)
    (hbm : ∃ (bm : Addr) (ob : Obj), mg "__builtins__" = some (.ref bm) ∧ bm ≠ builtinsNs ∧ s₁.heap.get? bm = some ob ∧ ob.cls = .type "module" ∧ ob.dict = some builtinsNs ∧ ob.data = .plain)
    (hwl : WellAll w.params s₁.heap vals ds) (hpl : plWs ds = true) (hwt : ∀ d ∈ ds, d.weight ≤ 1048576) (hr : Room k callerA)
    (F : ∀ base : Heap, K.In base → base.Ns mainGlobals mg → (∀ p ∈ cs, TabB base mg p.1 p.2) → FnOk P w K mg base CX k fa fd ps sp) (hbind : ∀ (s : Shared) (us : List Value), us.length = ps.length → BindsTo s fd ⟨us, []⟩ (ps.zip us)) (hlen : ds.length = ps.length)
    (hsp : ∀ (H : Hp) (xs : List V), (∀ p ∈ cs, H p.2 = some (.tbl #[])) → DwAll K H xs ds → sp xs H (fun v H' => Dw K H' v d0) fun _ _ _ => False)
    (hCX : ∀ H e s', CX [] H s₁ (fun _ _ _ => False) e s' → False) :
    codeAny (model P w) callerA (.call (.ref fa) ⟨vals, []⟩) (fun r s' => ∃ u as, r = .ok (.ret u) ∧ ReadsW R cl s'.heap u d0 as ∧ OldK s₁.heap s'.heap ∧ s'.os = s₁.os ∧ AllBare s'.gens) s₁ := by
  obtain ⟨A, ho, ar⟩ := area_all ds vals hwl hpl hwt
  have hO0 : OnlyF (argH K s₁.heap A) := argH_only ar
  have hok0 : HOk P w (argH K s₁.heap A) s₁.heap := argH_ok ar
  have hS0 := dw_all KX ar ds vals hwl hpl ho
  have hV := vals_toV ho
  have hK0 : ∀ b u, argH K s₁.heap A b = some u → K.lookup b = none := fun b u q => (argH_is ar q).1
  have isSeq : ∀ b u, argH K s₁.heap A b = some u → ∃ (c : String) (vs : Array Value), s₁.heap.get? b = some { cls := .type c, data := .seq vs } := fun b u q => by
    obtain ⟨_, vs, _, _, ⟨e2, _⟩ | ⟨e2, _⟩⟩ := argH_is ar q
    · exact ⟨_, _, e2⟩
    · exact ⟨_, _, e2⟩
  generalize argH K s₁.heap A = H0 at hO0 hok0 hS0 hK0 isSeq
  have isT : ∀ b : Addr, b ∈ cs.map (·.2) → s₁.heap.get? b = some tblO := fun b hb => by
    obtain ⟨p, hp, e⟩ := List.mem_map.mp hb
    rw [← e]
    exact hT p hp
  have memT : ∀ p ∈ cs, p.2 ∈ cs.map (·.2) := fun p hp => List.mem_map.mpr ⟨p, hp, rfl⟩
  have H0T : ∀ b u, H0 b = some u → b ∉ cs.map (·.2) := fun b u q z => by
    obtain ⟨c, vs, e⟩ := isSeq b u q
    rw [isT b z] at e
    cases e
  obtain ⟨H, hH⟩ : ∃ H : Hp, H = fun b => if b ∈ cs.map (·.2) then some (.tbl #[]) else H0 b := ⟨_, rfl⟩
  have hHt : ∀ b, b ∈ cs.map (·.2) → H b = some (.tbl #[]) := fun b hb => by rw [hH]; exact if_pos hb
  have hHn : ∀ b, b ∉ cs.map (·.2) → H b = H0 b := fun b hb => by rw [hH]; exact if_neg hb
  have sm : Same H0 H := fun b u q => by rw [hHn b (H0T b u q)]; exact q
  have hO : ∀ b, H b = none ∨ b ∈ cs.map (·.2) ∨ ∃ o u, H b = some (.frz o u) := fun b => by
    by_cases z : b ∈ cs.map (·.2)
    · exact .inr (.inl z)
    · rw [hHn b z]
      rcases hO0 b with q | q
      · exact .inl q
      · exact .inr (.inr q)
  have hok : HOk P w H s₁.heap := fun b u q => by
    by_cases z : b ∈ cs.map (·.2)
    · rw [hHt b z] at q
      cases q
      exact isT b z
    · rw [hHn b z] at q
      exact (hok0 b u q).stay (fun _ _ _ e => e) (fun c e => sm c _ e) fun c xs e => sm c _ e
  have hS : DwAll K H (vals.map toV) ds := dw_sames sm ds _ hS0
  have hK : ∀ b u, H b = some u → K.lookup b = none := fun b u q => by
    by_cases z : b ∈ cs.map (·.2)
    · obtain ⟨p, hp, e⟩ := List.mem_map.mp z
      rw [← e]
      exact nT p hp
    · rw [hHn b z] at q
      exact hK0 b u q
  have hTH : ∀ p ∈ cs, H p.2 = some (.tbl #[]) := fun p hp => hHt _ (memT p hp)
  have noD : ∀ {b : Addr} {o : Obj}, s₁.heap.get? b = some o → (∀ vs n, o.data ≠ .seq vs n) → o.data ≠ .fields #[] → H b = none := fun {b o} e h1 h2 => by
    cases q : H b with
    | none => rfl
    | some u =>
      by_cases z : b ∈ cs.map (·.2)
      · rw [isT b z] at e
        cases e
        exact (h2 rfl).elim
      · rw [hHn b z] at q
        obtain ⟨c, vs, e2⟩ := isSeq b u q
        rw [e2] at e
        cases e
        exact (h1 _ _ rfl).elim
  have base_of : ∀ {b : Addr} {o : Obj}, s₁.heap.get? b = some o → H b = none → (hidT s₁.heap H).get? b = some o := fun e n => hidT_get e n
  have noA : ∀ {b : Addr} {o : Obj} {es : Array DictEntry} {ep : Nat}, s₁.heap.get? b = some o → o.data = .dict es ep → H b = none := fun {b o es ep} e d => by
    refine noD e (fun vs n z => ?_) fun z => ?_
    · rw [d] at z
      cases z
    · rw [d] at z
      cases z
  have nsK : ∀ {b : Addr} {m : Str → Option Value}, s₁.heap.Ns b m → (hidT s₁.heap H).Ns b m := fun {b m} ⟨o, es, ep, e, d, r⟩ => ⟨o, es, ep, base_of e (noA e d), d, r⟩
  have nK : ∀ b o, K.lookup b = some o → H b = none := fun b o e => by
    cases q : H b with
    | none => rfl
    | some u =>
      rw [hK b u q] at e
      cases e
  have hKb : K.In (hidT s₁.heap H) := fun b o e => base_of (KX b o e) (nK b o e)
  have hM : L2.Mod K mg (hidT s₁.heap H) := ⟨hKb, nsK hns, ⟨mb, nsK hb, hbb⟩, let ⟨mc, h1, h2⟩ := hlim; ⟨mc, nsK h1, h2⟩⟩
  have TB : ∀ p ∈ cs, TabB (hidT s₁.heap H) mg p.1 p.2 := fun p hp => by
    have hTp := hT p hp
    refine ⟨?_, ?_, fun z => ?_⟩
    · obtain ⟨o, us, file, tf, flags, tg, inF, text, tt, e1, r1, r2, r3, r4, r5, r6, r7, r8, hne⟩ := C p hp
      refine ⟨o, us, file, tf, flags, tg, inF, text, tt, base_of e1 (noD e1 (fun vs n z => ?_) fun z => ?_), r1, r2, r3, r4, r5, r6, r7, r8, hne⟩
      · rw [r2] at z
        cases z
      · rw [r2] at z
        cases z
        simp at r3
    · obtain ⟨bm, ob, b1, b2, b3, b4, b5, b6⟩ := hbm
      have nG : bm ≠ mainGlobals := fun q => by
        obtain ⟨o, es, ep, e, hd, _⟩ := hns
        rw [q, e] at b3
        cases b3
        rw [hd] at b6
        cases b6
      have nP : bm ≠ p.2 := fun q => by
        rw [q, hTp] at b3
        cases b3
        cases b6
      refine ⟨bm, ob, b1, b2, nG, nP, base_of b3 (noD b3 (fun vs n z => ?_) fun z => ?_), b4, b5, b6⟩
      · rw [b6] at z
        cases z
      · rw [b6] at z
        cases z
    · obtain ⟨o, es, ep, e, hd, _⟩ := hns
      rw [z, hTp] at e
      cases e
      cases hd
  have e0 : Env0 P w K mg (hidT s₁.heap H) callerA [] s₁ H := ⟨rfl, hM, fun b o e => of_hidT e, Nat.le_of_eq (hidT_size _ _), trivial, fun b hb => absurd (show b ∈ ([] : List Addr) from hb) (by simp), hok, .of_eq hg⟩
  have hl : vals.length = ps.length := by rw [wellAll_len hwl]; exact hlen
  refine codeAny_mono ((F _ hKb (nsK hns) TB).run callerA [] s₁ H ⟨vals, []⟩ vals (vals.map toV) _ _ hr e0 (hbind s₁ vals hl) hV (hsp H _ hTH hS)) fun r s' x => ?_
  cases r with
  | error e => exact (hCX H e s' x).elim
  | ok fl =>
    cases fl with
    | next => exact False.elim x
    | brk => exact False.elim x
    | cont => exact False.elim x
    | ret u =>
      obtain ⟨v, H', os, bare, un, hok', r', q⟩ := x
      have key : ∀ b o, b ∉ cs.map (·.2) → s₁.heap.get? b = some o → s'.heap.get? b = some o := fun b o nb e => by
        cases q2 : H b with
        | none => exact un.keep b o e q2 (by intro z; exact absurd (show b ∈ ([] : List Addr) from z) (by simp)) (by simp)
        | some u2 =>
          rcases hO b with z | z | ⟨ob, u3, z⟩
          · rw [q2] at z
            cases z
          · exact absurd z nb
          · have z2 := un.frzs b ob _ z
            obtain ⟨e1, _⟩ := hok b _ z
            obtain ⟨e2, _⟩ := hok' b _ z2
            rw [e] at e1
            cases e1
            exact e2
      have grown : ∀ p ∈ cs, ∃ more : Array Value, s'.heap.get? p.2 = some { cls := .none, data := .fields more } := fun p hp => by
        obtain ⟨more, z⟩ := un.tbls p.2 #[] (hTH p hp)
        exact ⟨_, hok' p.2 _ z⟩
      have nTK : ∀ b o, K.lookup b = some o → b ∉ cs.map (·.2) := fun b o e z => by
        obtain ⟨p, hp, ep⟩ := List.mem_map.mp z
        rw [← ep, nT p hp] at e
        cases e
      have KX' : K.In s'.heap := fun b o e => key b o (nTK b o e) (KX b o e)
      obtain ⟨as, hrd⟩ := Dw.reads (R := R) (cl := cl) hok' KX' d0 v u q r'
      refine ⟨u, as, rfl, hrd, ⟨fun b o e => ?_, fun b o e => ?_⟩, os, bare⟩
      · by_cases hb : b ∈ cs.map (·.2)
        · obtain ⟨p, hp, ep⟩ := List.mem_map.mp hb
          obtain ⟨more, hm⟩ := grown p hp
          rw [← ep] at e ⊢
          rw [hT p hp] at e
          cases e
          exact .inr (.inl ⟨((C p hp).tab (hT p hp)).isCodeTable, rfl, #[], more, rfl, by rw [Array.empty_append]; exact hm⟩)
        · exact .inl (key b o hb e)
      · by_cases hb : b ∈ cs.map (·.2)
        · obtain ⟨p, hp, ep⟩ := List.mem_map.mp hb
          obtain ⟨more, hm⟩ := grown p hp
          rw [← ep]
          exact ⟨_, hm⟩
        · exact ⟨o, key b o hb e⟩
theorem walk_specT {r : OpenSpec} {k : Nat} {q : Program} {loose : List Str} {XP : (Str → Option Value) → Heap → Prop} {YP : World → Heap → Prop} {d : DefRec} {CX : CXT} {ps : List Str} {cs : PySem.W.Frag → List (Addr × Addr)} {sp : PySem.W.Frag → Sp}
    (hwell : r.wellSaid = true) (hdf : d.params.defaults = []) (hlen : r.args.length = ps.length) (hr : Room k callerA)
    (F : ∀ (w : World) (mg : Str → Option Value) (fa : Addr) (h : Heap), YP w h → h.Ns mainGlobals mg → mg d.name = some (.ref fa) →
      ∃ K : PySem.W.Frag, K.In h ∧ (∀ p ∈ cs K, h.get? p.2 = some tblO) ∧ (∀ p ∈ cs K, K.lookup p.2 = none) ∧ (∀ p ∈ cs K, PySem.W.CodeHd h p.1 p.2) ∧
      ∃ fd : FuncData, (∀ (s : Shared) (us : List Value), us.length = ps.length → BindsTo s fd ⟨us, []⟩ (ps.zip us)) ∧
        ∀ base : Heap, K.In base → base.Ns mainGlobals mg → (∀ p ∈ cs K, TabB base mg p.1 p.2) → FnOk r.prog w K mg base CX k fa fd ps (sp K))
    (hsp : ∀ (K : PySem.W.Frag) (H : Hp) (xs : List V) (a : Codec.denoteAll r.args), (∀ p ∈ cs K, H p.2 = some (.tbl #[])) → Codec.withinAll r.args a = true → Codec.app r.args r.asked a = true → DwAll K H xs (Codec.encAll r.args a) →
      sp K xs H (fun v H' => Dw K H' v (r.ret.enc (Codec.app r.args r.f a))) fun _ _ _ => False)
    (hCX : ∀ (H : Hp) (s : Shared) (e : Value) (s' : Shared), CX [] H s (fun _ _ _ => False) e s' → False) :
    PySem.W.WalkOS q loose XP YP r d [] (fun f vs => PySem.call f vs) := by
  intro w s₀ s₁ mg mb G Y fa o pm cd doc dV kV ho hd hcd hD hmg hg args vals as hpre hlay hrd hwl hlo
  obtain ⟨a, e1, e2⟩ := PySem.W.os_pre_some hpre
  obtain ⟨e3, hwi⟩ := Codec.encAll_of_decAll r.args args a e1
  subst e3
  obtain ⟨K, KX, hT, nT, C, fd, hb, hF⟩ := F w mg fa _ Y G.T.g hmg
  refine PySem.W.enter_call (codeAny_mono (spec_callT (R := []) (cl := classAt s₀.heap) (d0 := r.ret.enc (Codec.app r.args r.f a)) KX G.T.g G.T.b G.T.builtins G.T.nolimit hg hT nT C G.T.bmain hwl (pl_encAll _ _) (layable_weight hlay) hr hF hb (by rw [encAll_len]; exact hlen)
    (fun H xs hO hS => hsp K H xs a hO hwi e2 hS) fun H e s' => hCX H s₁ e s') fun r' s' hq => ?_)
  obtain ⟨u, as', rfl, h1, h2, h3, h4⟩ := hq
  exact ⟨.inl ⟨u, _, as', rfl, fun _ => rfl, h1, (OpenSpec.post_iff hwell hwi _ _).mpr rfl, fun z => Bool.noConfusion (show false = true from z)⟩, h2, h3, h4⟩
end Nhp
/-! Short words, the heap's picture of a state. -/
namespace Nhp
open PySem PySem.Spec PyProof.Rows L2 LamX NdefX
/-! ### defs by their places -/
def Ok (P : Program) (w : World) (K : PySem.W.Frag) (mg : Str → Option Value) (base : Heap) (k : Nat) (f : Addr) (ps : List Str) (sp : Sp) : Prop :=
  ∃ fd, FnOk P w K mg base CX0 k f fd ps sp ∧ Binds K fd ps [] ∧ PySem.W.keepIn K (.ref f) = true
section
variable {P : Program} {w : World} {K : PySem.W.Frag} {mg : Str → Option Value} {base : Heap} {k : Nat} {f : Addr} {N ps : List Str} {sp : Sp} {x qual : Str} {params : Arguments} {body : List Stmt} {scope : Scope}
theorem ok_of (F : ∃ fd, FunD K x qual params body scope [] [] f fd) (S : FnScope N ps scope) (len : ∀ vs H Q E, sp vs H Q E → vs.length = ps.length)
    (hb : ∀ (kV doc pm : Value) (an : Option Addr) (cdv ct : Value) (us : List Value), us.length = ps.length → bindArgs (PySem.W.fnOf x qual params body scope .none kV doc pm an cdv ct) ⟨us, []⟩ = pure (ps.zip us))
    (hbody : ∀ (cdv : Value) (A : Around) (outer : List Env) (s : Shared) (H : Hp) (vs : List V) (Q : VK) (E : XK), Room k (A.deeper (envOfC qual scope s.heap.objs.size f cdv)) → sp vs H Q E →
      ∃ t, PSs (cxOf CX0 P w K mg base N qual scope f cdv A outer s H E).nox body t ∧ t { nx := fun _ H' => Q .non H', rt := Q } (start N vs) H) : Ok P w K mg base (k + 1) f ps sp := by
  obtain ⟨fd, F⟩ := F
  exact ⟨fd, F.ok S len fun cdv A outer s H vs Q E hr h => let ⟨t, h1, h2⟩ := hbody cdv A outer s H vs Q E hr h; ⟨t, h1.nox, h2⟩, F.bindsN hb, F.kp⟩
/-- a def that makes lambdas: its code object is known -/
theorem ok_ofC {d : He.Defn} (F : ∃ fd, FunD K x qual params body scope [] [] (He.fAd K d) fd) (S : FnScope N ps scope) (len : ∀ vs H Q E, sp vs H Q E → vs.length = ps.length)
    (hb : ∀ (kV doc pm : Value) (an : Option Addr) (cdv ct : Value) (us : List Value), us.length = ps.length → bindArgs (PySem.W.fnOf x qual params body scope .none kV doc pm an cdv ct) ⟨us, []⟩ = pure (ps.zip us))
    (hbody : ∀ (A : Around) (outer : List Env) (s : Shared) (H : Hp) (vs : List V) (Q : VK) (E : XK), Room k (A.deeper (envOfC qual scope s.heap.objs.size (He.fAd K d) (.ref (He.cT K d).1))) → sp vs H Q E →
      ∃ t, PSs (cxOf CX0 P w K mg base N qual scope (He.fAd K d) (.ref (He.cT K d).1) A outer s H E).nox body t ∧ t { nx := fun _ H' => Q .non H', rt := Q } (start N vs) H) : Ok P w K mg base (k + 1) (He.fAd K d) ps sp := by
  obtain ⟨fd, F⟩ := F
  refine ⟨fd, ?_, F.bindsN hb, F.kp⟩
  obtain ⟨oc, od, dV, kV, doc, pm, an, cdv, ct, osl, rfl, lk, hcd, _, _⟩ := F.ex
  obtain ⟨c, rfl⟩ := He.codeIn_ref hcd
  have ec : c = (He.cT K d).1 := (He.codeOf_eq lk rfl).symm
  subst ec
  exact fn_of lk hcd S len fun A outer s H vs Q E hr h => let ⟨t, h1, h2⟩ := hbody A outer s H vs Q E hr h; ⟨t, h1.nox, h2⟩
end
section
variable {X : Cx} {k : Nat} {f C : Addr} {ps : List Str} {sp : Sp} {x m : Str} {p pos apos : Pos} {e o : Expr} {es : List Expr} {ta : TE} {t : TA}
abbrev OkX (X : Cx) (k : Nat) (f : Addr) (ps : List Str) (sp : Sp) : Prop := Ok X.prog X.w X.K X.mg X.base k f ps sp
theorem pe_cl (G : OkX X k f ps sp) (hr : Room k X.A) (hg : Gl X x) (hm : X.mg x = some (.ref f)) (ha : PA X (e :: es) t) (hdb : (x == ("__debug__" : Str)) = false := by decide)
    (he : starEach (e :: es) X.env = (false, eval e X.env) :: starEach es X.env := by rfl) (hpl : (backTo pos (starEach es X.env)).any (·.1) = false := by rfl) : PE X (.Call (.Name x p) (e :: es) [] pos) (tCall sp [] E0 t) := by
  obtain ⟨fd, F, b, kp⟩ := G
  exact pe_call F hr hg hm kp b .nil pass0 ha hdb he hpl
theorem pe_mt {pl : Sem Bool} (he : PE X o ta) (c : Cls X.K C) (hm : Meth X.K C m f) (G : OkX X k f ps sp) (hr : Room k X.A) (ha : PA X (e :: es) t)
    (hst : starEach (e :: es) X.env = (false, eval e X.env) :: starEach es X.env := by rfl) (hpl : (backTo pos (starEach es X.env)).any (·.1) = false := by rfl)
    (ht : eval (.Call (.Attribute o m apos) (e :: es) [] pos) X.env = (do
      let ov ← eval o X.env
      standAt apos.atName
      let (f, first) ← holding [ov] (getMethod ov m pl)
      callWith pos f first (backTo pos (starEach (e :: es) X.env)) (backToKw pos (keywordEach [] X.env))) := by rfl) :
    PE X (.Call (.Attribute o m apos) (e :: es) [] pos) (tMeth C m sp [] E0 ta t) := by
  obtain ⟨fd, F, b, kp⟩ := G
  exact pe_meth he c hm F hr b .nil pass0 ha hst hpl ht
theorem pe_mt0 {pl : Sem Bool} (he : PE X o ta) (c : Cls X.K C) (hm : Meth X.K C m f) (G : OkX X k f ps sp) (hr : Room k X.A)
    (ht : eval (.Call (.Attribute o m apos) [] [] pos) X.env = (do
      let ov ← eval o X.env
      standAt apos.atName
      let (f, first) ← holding [ov] (getMethod ov m pl)
      callWith pos f first (backTo pos (starEach [] X.env)) (backToKw pos (keywordEach [] X.env))) := by rfl) :
    PE X (.Call (.Attribute o m apos) [] [] pos) (tMeth C m sp [] E0 ta tNil) := by
  obtain ⟨fd, F, b, kp⟩ := G
  exact pe_meth0 he c hm F hr b .nil pass0 ht
theorem pe_mk (M : Mk X.K C f) (G : OkX X k f ps sp) (hr : Room (k + 1) X.A) (hg : Gl X x) (hm : X.mg x = some (.ref C)) (ha : PA X (e :: es) t) (hdb : (x == ("__debug__" : Str)) = false := by decide)
    (he : starEach (e :: es) X.env = (false, eval e X.env) :: starEach es X.env := by rfl) (hpl : (backTo pos (starEach es X.env)).any (·.1) = false := by rfl) : PE X (.Call (.Name x p) (e :: es) [] pos) (tMake C sp [] E0 t) := by
  obtain ⟨fd, F, b, kp⟩ := G
  exact pe_make M F hr hg hm b .nil pass0 ha hdb he hpl
theorem pe_mk0 (M : Mk X.K C f) (G : OkX X k f ps sp) (hr : Room (k + 1) X.A) (hg : Gl X x) (hm : X.mg x = some (.ref C)) (hdb : (x == ("__debug__" : Str)) = false := by decide) : PE X (.Call (.Name x p) [] [] pos) (tMake C sp [] E0 tNil) := by
  obtain ⟨fd, F, b, kp⟩ := G
  exact pe_make0 M F hr hg hm b .nil pass0 hdb
/-- a module's whole number -/
theorem pe_gi {i : Int} (hg : Gl X x) (h : ∃ t, X.mg x = some (.int i t)) (hdb : (x == ("__debug__" : Str)) = false := by decide) : PE X (.Name x pos) (tC (.int i)) := by
  obtain ⟨t, ht⟩ := h
  exact pe_glob hg ht ⟨t, rfl⟩ hdb
end
theorem q_eq {Q : VK} {H : Hp} {a b : V} (h : Q a H) (e : a = b) : Q b H := by rw [← e]; exact h
/-- a comprehension's turn without an if -/
theorem yes_of {te : TE} {σ : L2.St} {H : Hp} {D : Addr} {Nx : Hp → Prop} (h : te σ H fun y H4 => ∃ acc, H4 D = some (.lst acc) ∧ acc.length < sizeLine ∧ Nx (upd H4 D (.lst (acc ++ [y])))) :
    tYes σ H fun b H3 => if b = true then te σ H3 fun y H4 => ∃ acc, H4 D = some (.lst acc) ∧ acc.length < sizeLine ∧ Nx (upd H4 D (.lst (acc ++ [y]))) else Nx H3 := by
  have z : ∀ A B : Prop, A → if true = true then A else B := fun A B a => by rw [if_pos rfl]; exact a
  exact z _ (Nx H) h
/-- .. with one, kept or not -/
theorem if_of {b : Bool} {A B : Prop} (h1 : b = true → A) (h2 : b = false → B) : if b = true then A else B := by
  cases b
  · rw [if_neg Bool.false_ne_true]
    exact h2 rfl
  · rw [if_pos rfl]
    exact h1 rfl
/-! ### what stays -/
def Ex (T : List (Addr × Str)) (H H' : Hp) : Prop := ExtN H H' ∧ (Tabs T H → Tabs T H')
section
variable {T : List (Addr × Str)} {H H1 H2 H' : Hp} {K : PySem.W.Frag}
theorem Ex.refl (T : List (Addr × Str)) (H : Hp) : Ex T H H := ⟨ExtN.refl H, id⟩
theorem Ex.trans (a : Ex T H H1) (b : Ex T H1 H2) : Ex T H H2 := ⟨a.1.trans b.1, fun h => b.2 (a.2 h)⟩
theorem exS (e : Same H H') : Ex T H H' := ⟨ExtN.of e, fun h => h.ext e⟩
theorem Ex.at_ (e : Ex T H H') {b : Addr} {o : HO} (h : H b = some o) (n : ∀ ps, o ≠ .tbl ps := by intro _ z; cases z) : H' b = some o := e.1 b o h n
theorem Ex.seq (e : Ex T H H') {a : Addr} {xs : List V} (h : SqL K H a xs) : SqL K H' a xs := by
  rcases h with (h | ⟨o, h⟩) | h
  · exact .inl (.inl (e.at_ h))
  · exact .inl (.inr ⟨o, e.at_ h⟩)
  · exact .inr h
theorem Ex.sqt (e : Ex T H H') {a : Addr} {xs : List V} (h : SqT K H a xs) : SqT K H' a xs := by
  rcases h with (h | ⟨o, h⟩) | h
  · exact .inl (.inl (e.at_ h))
  · exact .inl (.inr ⟨o, e.at_ h⟩)
  · exact .inr h
theorem same_new {p : Addr} {o : HO} (h : H p = none) : Same H (upd H p o) := fun b u e => (upd_ne (ne_of_none e h)).trans e
theorem Ex.none {b : Addr} (e : Ex T H H') (h : H' b = none) {P : List (Addr × Str)} : H b = none ∨ ∃ ps, H b = some (.tbl ps) := by
  cases q : H b with
  | none => exact .inl rfl
  | some o =>
    by_cases z : ∀ ps, o ≠ .tbl ps
    · rw [e.1 b o q z] at h
      cases h
    · have ⟨ps, hp⟩ : ∃ ps, o = .tbl ps := Classical.byContradiction fun w => z fun ps e => w ⟨ps, e⟩
      exact .inr ⟨ps, by rw [hp]⟩
end
/-! ### ints as values -/
abbrev nV (n : Nat) : V := .int (n : Int)
def nsV (l : List Nat) : List V := l.map nV
theorem nsV_ints (l : List Nat) : nsV l = (l.map fun (n : Nat) => (n : Int)).map V.int := by
  unfold nsV
  rw [List.map_map]
  rfl
theorem nV_inj {a b : Nat} (h : nV a = nV b) : a = b := by
  have h2 : (a : Int) = (b : Int) := V.int.inj h
  omega
/-! ### the heap's picture -/
abbrev cM (K : PySem.W.Frag) : Addr := He.ga K "Member"
abbrev cR (K : PySem.W.Frag) : Addr := He.ga K "Route"
abbrev cS (K : PySem.W.Frag) : Addr := He.ga K "RouteServer"
def Tl (K : PySem.W.Frag) : List (Addr × Str) := [((He.cT K tp1).2, "RouteServer.ranked_routes.<locals>.<lambda>"), ((He.cT K tp2).2, "longest_match.<locals>.<lambda>")]
structure MA where
  a : Addr
  dx : Addr
  d1 : Addr
  d2 : Addr
  d3 : Addr
structure SA where
  a : Addr
  dx : Addr
  ml : Addr
  rl : Addr
  ms : List MA
  rs : List Addr
def mF (x : MA) (asn : Nat) : List (Str × V) := [("asn", nV asn), ("export_denials", .ref x.d1), ("import_denials", .ref x.d2), ("preferences", .ref x.d3)]
def rF (r : Su201.Route) (q : Addr) : List (Str × V) := [("announcer", nV r.announcer), ("address", nV r.address), ("length", nV r.length), ("as_path", .ref q)]
def sF (ml rl : Addr) : List (Str × V) := [("members", .ref ml), ("routes", .ref rl)]
def PolAt (H : Hp) (d : Addr) (dflt : Nat) (f : Nat → Nat) : Prop := ∃ kvs : List (Key × V), H d = some (.dK kvs) ∧ (kvs.map (·.1)).Nodup ∧ (∀ q ∈ kvs, ∃ n : Nat, n < 6 ∧ q.1 = Sum.inl (n : Int)) ∧ ∀ n : Nat, (valV kvs (Sum.inl (n : Int))).getD (nV dflt) = nV (f n)
def prefOf (m : Su201.Member) (n : Nat) : Nat := ((m.preferences.find? fun y => y.1 == n).map fun y => y.2).getD 5
structure MemAt (C : Addr) (H : Hp) (x : MA) (m : Su201.Member) : Prop where
  o : H x.a = some (.ins C x.dx (mF x m.asn))
  e : PolAt H x.d1 0 fun n => Su201.boolToNat (m.exportDenied.contains n)
  i : PolAt H x.d2 0 fun n => Su201.boolToNat (m.importDenied.contains n)
  p : PolAt H x.d3 5 (prefOf m)
def RouAt (C : Addr) (H : Hp) (a : Addr) (r : Su201.Route) : Prop := ∃ dx q, H a = some (.ins C dx (rF r q)) ∧ H q = some (.lst (nsV r.asPath))
def TabAt (C : Addr) (H : Hp) (t : Addr) (xs : List Su201.Route) : Prop := ∃ rs : List Addr, H t = some (.lst (rs.map V.ref)) ∧ Paired (RouAt C H) rs xs
abbrev dsOf (ms : List MA) : List Addr := ms.flatMap fun x => [x.d1, x.d2, x.d3]
structure SrvAt (K : PySem.W.Frag) (H : Hp) (L : SA) (s : Su201.RouteServer) : Prop where
  o : H L.a = some (.ins (cS K) L.dx (sF L.ml L.rl))
  ml : H L.ml = some (.lst (L.ms.map fun x => V.ref x.a))
  rl : H L.rl = some (.lst (L.rs.map V.ref))
  mem : Paired (MemAt (cM K) H) L.ms s.members
  rou : Paired (RouAt (cR K) H) L.rs s.routes
  ne : L.ml ≠ L.rl
  nd : (dsOf L.ms).Nodup
section
variable {T : List (Addr × Str)} {H H' : Hp} {K : PySem.W.Frag}
theorem PolAt.ex {d : Addr} {n : Nat} {f : Nat → Nat} (h : PolAt H d n f) (e : Ex T H H') : PolAt H' d n f := by
  obtain ⟨kvs, h1, h2⟩ := h
  exact ⟨kvs, e.at_ h1, h2⟩
theorem MemAt.ex {C : Addr} {x : MA} {m : Su201.Member} (h : MemAt C H x m) (e : Ex T H H') : MemAt C H' x m := ⟨e.at_ h.o, h.e.ex e, h.i.ex e, h.p.ex e⟩
theorem RouAt.ex {C a : Addr} {r : Su201.Route} (h : RouAt C H a r) (e : Ex T H H') : RouAt C H' a r := by
  obtain ⟨dx, q, h1, h2⟩ := h
  exact ⟨dx, q, e.at_ h1, e.at_ h2⟩
theorem paired_imp {α β : Type} {F G : α → β → Prop} {l : List α} {m : List β} (h : Paired F l m) (k : ∀ a b, F a b → G a b) : Paired G l m := Paired.mapP h k
theorem rous_ex {C : Addr} {rs : List Addr} {xs : List Su201.Route} (h : Paired (RouAt C H) rs xs) (e : Ex T H H') : Paired (RouAt C H') rs xs := paired_imp h fun _ _ z => z.ex e
theorem TabAt.ex {C t : Addr} {xs : List Su201.Route} (h : TabAt C H t xs) (e : Ex T H H') : TabAt C H' t xs := by
  obtain ⟨rs, h1, h2⟩ := h
  exact ⟨rs, e.at_ h1, rous_ex h2 e⟩
theorem SrvAt.ex {L : SA} {s : Su201.RouteServer} (h : SrvAt K H L s) (e : Ex T H H') : SrvAt K H' L s :=
  ⟨e.at_ h.o, e.at_ h.ml, e.at_ h.rl, paired_imp h.mem fun _ _ z => z.ex e, rous_ex h.rou e, h.ne, h.nd⟩
theorem paired_get {α β : Type} {F : α → β → Prop} : ∀ {l : List α} {m : List β} {i : Nat} {y : β}, Paired F l m → m[i]? = some y → ∃ x, l[i]? = some x ∧ F x y
  | _, _, i, _, .nil, h => by simp at h
  | _, _, 0, y, .cons r t, h => by
    have h2 : some _ = some y := h
    cases h2
    exact ⟨_, rfl, r⟩
  | _, _, i + 1, y, .cons r t, h => paired_get (i := i) t h
theorem paired_got {α β : Type} {F : α → β → Prop} : ∀ {l : List α} {m : List β} {i : Nat} {x : α}, Paired F l m → l[i]? = some x → ∃ y, m[i]? = some y ∧ F x y
  | _, _, i, _, .nil, h => by simp at h
  | _, _, 0, x, .cons r t, h => by
    have h2 : some _ = some x := h
    cases h2
    exact ⟨_, rfl, r⟩
  | _, _, i + 1, x, .cons r t, h => paired_got (i := i) t h
theorem SrvAt.member {L : SA} {s : Su201.RouteServer} (h : SrvAt K H L s) {m : Nat} (hm : m < s.members.length) : ∃ x, L.ms[m]? = some x ∧ MemAt (cM K) H x (s.member m) := paired_get h.mem (member_at hm)
theorem rou_fun {C a : Addr} {r r' : Su201.Route} (h : RouAt C H a r) (h' : RouAt C H a r') : r = r' := by
  obtain ⟨dx, q, h1, h2⟩ := h
  obtain ⟨dx', q', h1', h2'⟩ := h'
  rw [h1] at h1'
  have e := Option.some.inj h1'
  simp only [HO.ins.injEq, rF, List.cons.injEq, Prod.mk.injEq, V.ref.injEq, V.int.injEq, true_and, and_true] at e
  obtain ⟨_, e1, e2, e3, e4⟩ := e
  subst e4
  rw [h2] at h2'
  have e5 := HO.lst.inj (Option.some.inj h2')
  have inj : ∀ {l l' : List Nat}, nsV l = nsV l' → l = l' := fun {l l'} q => by
    unfold nsV at q
    exact (List.map_inj_right fun a b e => nV_inj e).mp q
  have e6 := inj e5
  cases r
  cases r'
  simp only [Su201.Route.mk.injEq]
  simp only at e1 e2 e3 e6
  exact ⟨by omega, by omega, by omega, e6⟩
end
end Nhp
/-! checks.py -/
namespace Nhp
open PySem PySem.Spec PyProof.Rows L2 LamX NdefX
def spIsAsn : Sp := fun vs H Q _ => ∃ n : Nat, vs = [nV n] ∧ Q (.bl (decide (1 ≤ n) && decide (n ≤ 9999))) H
def spIsAddress : Sp := fun vs H Q _ => ∃ n : Nat, vs = [nV n] ∧ Q (.bl (decide (n < 256))) H
def spSize : Sp := fun vs H Q _ => ∃ n : Nat, vs = [nV n] ∧ n ≤ 8 ∧ Q (nV (2 ^ (8 - n))) H
def spIsPrefix : Sp := fun vs H Q _ => ∃ a l : Nat, vs = [nV a, nV l] ∧ Q (.bl (Su201.isPrefix a l)) H
section
variable {P : Program} {w : World} {K : PySem.W.Frag} {mg : Str → Option Value} {base : Heap}
theorem sc_is_asn : FnScope ["number"] ["number"] (defScope s_is_asn) := ⟨rfl, rfl, rfl, by decide +kernel, rfl, by decide +kernel, by decide +kernel⟩
theorem ok_is_asn (T : Txt K mg) : Ok P w K mg base 1 (He.ga K "is_asn") ["number"] spIsAsn := by
  refine ok_of T.d_is_asn sc_is_asn (fun vs H Q E h => ?_) (fun _ _ _ _ _ _ us hl => match us, hl with | [_], _ => rfl) (fun cdv A outer s H vs Q E hr h => ⟨_, pss_one (ps_ret (pe_chain op_le op_le pe_int (pv 0) (pe_gi rfl T.i_MAX_ASN))), ?_⟩)
  · obtain ⟨n, rfl, _⟩ := h
    rfl
  · obtain ⟨n, rfl, h⟩ := h
    refine ⟨_, rfl, _, _, rfl, rfl, _, rfl, ?_⟩
    by_cases c : (1 : Int) ≤ n
    · rw [decide_eq_true c]
      refine iteT ⟨_, _, rfl, rfl, ?_⟩
      have e : decide ((n : Int) ≤ 9999) = (decide (1 ≤ n) && decide (n ≤ 9999)) := by
        rw [decide_eq_true (show 1 ≤ n by omega), Bool.true_and]
        exact decide_eq_decide.mpr (by omega)
      exact q_eq (Q := Q) h (congrArg V.bl e.symm)
    · rw [decide_eq_false c]
      refine iteF ?_
      have e : (decide (1 ≤ n) && decide (n ≤ 9999)) = false := by
        rw [decide_eq_false (show ¬ 1 ≤ n by omega), Bool.false_and]
      rw [e] at h
      exact h
theorem sc_is_address : FnScope ["number"] ["number"] (defScope s_is_address) := ⟨rfl, rfl, rfl, by decide +kernel, rfl, by decide +kernel, by decide +kernel⟩
theorem ok_is_address (T : Txt K mg) : Ok P w K mg base 1 (He.ga K "is_address") ["number"] spIsAddress := by
  refine ok_of T.d_is_address sc_is_address (fun vs H Q E h => ?_) (fun _ _ _ _ _ _ us hl => match us, hl with | [_], _ => rfl) (fun cdv A outer s H vs Q E hr h => ⟨_, pss_one (ps_ret (pe_cmpR op_lt (pv 0) (pe_gi rfl T.i_ADDRESS_COUNT) (nomark _))), ?_⟩)
  · obtain ⟨n, rfl, _⟩ := h
    rfl
  · obtain ⟨n, rfl, h⟩ := h
    refine ⟨_, rfl, _, _, rfl, rfl, ?_⟩
    have e : decide ((n : Int) < 256) = decide (n < 256) := decide_eq_decide.mpr (by omega)
    exact q_eq (Q := Q) h (congrArg V.bl e.symm)
theorem sc_size : FnScope ["length"] ["length"] (defScope s_size_of_prefix) := ⟨rfl, rfl, rfl, by decide +kernel, rfl, by decide +kernel, by decide +kernel⟩
theorem shr_256 : ∀ n, n ≤ 8 → (256 : Int) / 2 ^ n = ((2 ^ (8 - n) : Nat) : Int) := by decide
theorem ok_size (T : Txt K mg) : Ok P w K mg base 1 (He.ga K "size_of_prefix") ["length"] spSize := by
  refine ok_of T.d_size_of_prefix sc_size (fun vs H Q E h => ?_) (fun _ _ _ _ _ _ us hl => match us, hl with | [_], _ => rfl) (fun cdv A outer s H vs Q E hr h => ⟨_, pss_one (ps_ret (pe_op op_shr (pe_gi rfl T.i_ADDRESS_COUNT) (pv 0))), ?_⟩)
  · obtain ⟨n, rfl, _⟩ := h
    rfl
  · obtain ⟨n, rfl, hn, h⟩ := h
    refine ⟨_, rfl, _, _, rfl, rfl, Int.natCast_nonneg n, ?_⟩
    have e : (256 : Int) / 2 ^ ((n : Int).toNat) = ((2 ^ (8 - n) : Nat) : Int) := by
      rw [Int.toNat_natCast]
      exact shr_256 n hn
    exact q_eq (Q := Q) h (congrArg V.int e.symm)
theorem sc_is_prefix : FnScope ["address", "length"] ["address", "length"] (defScope s_is_prefix) := ⟨rfl, rfl, rfl, by decide +kernel, rfl, by decide +kernel, by decide +kernel⟩
theorem ok_is_prefix (T : Txt K mg) : Ok P w K mg base 2 (He.ga K "is_prefix") ["address", "length"] spIsPrefix := by
  refine ok_of T.d_is_prefix sc_is_prefix (fun vs H Q E h => ?_) (fun _ _ _ _ _ _ us hl => match us, hl with | [_, _], _ => rfl) (fun cdv A outer s H vs Q E hr h => ⟨_, pss_cons (ps_if (PW.pt (pw_or (pt_cmpR op_gt (pv 1) (pe_gi rfl T.i_ADDRESS_BITS) (nomark _))
      (pw_or1 (pt_not (pt_val (pe_cl (ok_is_address T) hr rfl T.g_is_address (pa_cons (pv 0) pa_nil)))))))
      (pss_one (ps_ret pe_bl)) pss_nil)
    (pss_one (ps_ret (pe_cmpR op_eq (pe_op op_modN (pv 0) (pe_cl (ok_size T) hr rfl T.g_size_of_prefix (pa_cons (pv 1) pa_nil))) pe_int (nomark _)))), ?_⟩)
  · obtain ⟨a, l, rfl, _⟩ := h
    rfl
  · obtain ⟨a, l, rfl, h⟩ := h
    have no : ∀ {b : Bool}, Su201.isPrefix a l = b → Q (.bl b) H := fun e => by rw [← e]; exact h
    refine ⟨_, rfl, _, _, rfl, rfl, _, rfl, ?_⟩
    by_cases c : (8 : Int) < l
    · rw [decide_eq_true c]
      refine iteT (iteT (no ?_))
      have z := isPrefix_iff (a := a) (l := l)
      cases e : Su201.isPrefix a l
      · rfl
      · have := (z.mp e).1
        omega
    · rw [decide_eq_false c]
      refine iteF ⟨_, rfl, a, rfl, _, rfl, ?_⟩
      by_cases c2 : a < 256
      · rw [decide_eq_true c2]
        refine iteF ⟨_, rfl, _, rfl, l, rfl, by omega, _, _, rfl, rfl, ?_, rfl, ?_⟩
        · have : 0 < 2 ^ (8 - l) := Nat.pow_pos (by decide)
          omega
        · refine no ?_
          have e1 : (a : Int).fmod ((2 ^ (8 - l) : Nat) : Int) = ((a % 2 ^ (8 - l) : Nat) : Int) := by
            rw [Int.fmod_eq_emod_of_nonneg _ (Int.natCast_nonneg _)]
            exact (Int.natCast_emod _ _).symm
          show Su201.isPrefix a l = decide (V.int ((a : Int).fmod ((2 ^ (8 - l) : Nat) : Int)) = V.int 0)
          rw [e1, Bool.eq_iff_iff, decide_eq_true_eq, isPrefix_iff]
          refine ⟨fun q => by rw [q.2.2] <;> rfl, fun q => ⟨by omega, c2, ?_⟩⟩
          have := V.int.inj q
          omega
      · rw [decide_eq_false c2]
        refine iteT (no ?_)
        have z := isPrefix_iff (a := a) (l := l)
        cases e : Su201.isPrefix a l
        · rfl
        · have := (z.mp e).2.1
          omega
end
end Nhp
/-! checks.py: is_as_path -/
namespace Nhp
open PySem PySem.Spec PyProof.Rows L2 LamX NdefX
def asnB (n : Nat) : Bool := decide (1 ≤ n) && decide (n ≤ 9999)
def pathOk (asn : Nat) (l : List Nat) : Bool := decide (1 ≤ l.length) && (decide (l.length ≤ 6) && (l.all (fun x => decide (1 ≤ x) && decide (x ≤ 9999)) && (l.headD 0 == asn && decide l.Nodup)))
def spIsPath : Sp := fun vs H Q _ => ∃ (q : Addr) (p : List Nat) (asn : Nat), vs = [.ref q, nV asn] ∧ H q = some (.lst (nsV p)) ∧ ∀ H', Same H H' → Q (.bl (pathOk asn p)) H'
theorem nsV_at {p : List Nat} {i : Nat} {x : V} (h : (nsV p)[i]? = some x) : ∃ n, p[i]? = some n ∧ x = nV n := by
  unfold nsV at h
  rw [List.getElem?_map] at h
  cases e : p[i]? with
  | none =>
    rw [e] at h
    cases h
  | some n =>
    rw [e] at h
    exact ⟨n, rfl, (Option.some.inj h).symm⟩
theorem take_more {α : Type} {l : List α} {i : Nat} {x : α} (h : l[i]? = some x) : l.take (i + 1) = l.take i ++ [x] := by
  rw [List.take_add_one, h]
  rfl
theorem at_len {α : Type} {l : List α} {i : Nat} {x : α} (h : l[i]? = some x) : i < l.length := (List.getElem?_eq_some_iff.mp h).1
section
variable {P : Program} {w : World} {K : PySem.W.Frag} {mg : Str → Option Value} {base : Heap}
theorem sc_is_as_path : FnScope ["as_path", "announcer_asn", "number"] ["as_path", "announcer_asn"] (defScope s_is_as_path) := ⟨rfl, rfl, rfl, by decide +kernel, rfl, by decide +kernel, by decide +kernel⟩
theorem line_nat {p : List Nat} {q : Addr} {H : Hp} : True := trivial
theorem ok_is_as_path (T : Txt K mg) : Ok P w K mg base 2 (He.ga K "is_as_path") ["as_path", "announcer_asn"] spIsPath := by
  refine ok_of T.d_is_as_path sc_is_as_path (fun vs H Q E h => ?_) (fun _ _ _ _ _ _ us hl => match us, hl with | [_, _], _ => rfl) (fun cdv A outer s H vs Q E hr h => ⟨_, pss_cons (ps_if (pt_not (pt_chain op_le op_le pe_int (pe_callB call_len_seq rfl T.n_len PySem.boot_len (pa_cons (pv 0) pa_nil)) (pe_gi rfl T.i_MAX_PATH_LENGTH))) (pss_one (ps_ret pe_bl)) pss_nil)
    (pss_cons (ps_if (pt_not (pt_val (pe_callB (cr_all rfl) rfl T.n_all (by decide +kernel) (pa_cons (pe_lc (own := [("number", 2)]) (g := gName 2) (tt := tYes) rfl sc_is_as_path.nd (pi_list (pv 0)) (blkOk_by (N := ["as_path", "announcer_asn", "number"]) (sc := defScope s_is_as_path) (by decide +kernel))
        (fun _ _ _ _ _ => pg_name (i := 2) sc_is_as_path.nd rfl (Or.inl rfl)) (fun _ _ _ _ _ => pts_nil) (fun _ _ _ _ _ => pe_cl (ok_is_asn T) hr rfl T.g_is_asn (pa_cons (pv 2) pa_nil))) pa_nil)))) (pss_one (ps_ret pe_bl)) pss_nil)
    (pss_one (ps_ret (pe_and (pe_cmpR op_eq (pe_lenSetA rfl rfl T.n_len rfl T.n_set (pv 0)) (pe_callB call_len_seq rfl T.n_len PySem.boot_len (pa_cons (pv 0) pa_nil)) (nomark _)) (pe_one (pe_cmpR op_eq (pe_ix ix_list (pv 0) pe_int (fun _ _ => rfl)) (pv 1) (nomark _))))))), ?_⟩)
  · obtain ⟨q, p, asn, rfl, _⟩ := h
    rfl
  · obtain ⟨q, p, asn, rfl, hq, h⟩ := h
    have lenp : (nsV p).length = p.length := List.length_map _
    refine ⟨_, rfl, q, nsV p, rfl, .inl (SqL.of hq), _, _, rfl, rfl, _, rfl, ?_⟩
    rw [lenp]
    have no : ∀ (b : Bool), pathOk asn p = b → ∀ H', Same H H' → Q (.bl b) H' := fun b e H' s => by rw [← e]; exact h H' s
    by_cases c1 : (1 : Int) ≤ p.length
    rotate_left
    · rw [decide_eq_false c1]
      refine iteF ⟨_, rfl, iteT (no _ ?_ _ (Same.refl H))⟩
      unfold pathOk
      rw [decide_eq_false (show ¬ 1 ≤ p.length by omega)] <;> rfl
    rw [decide_eq_true c1]
    refine iteT ⟨_, _, rfl, rfl, _, rfl, ?_⟩
    by_cases c2 : (p.length : Int) ≤ 6
    rotate_left
    · rw [decide_eq_false c2]
      refine iteT (no _ ?_ _ (Same.refl H))
      unfold pathOk
      rw [decide_eq_false (show ¬ p.length ≤ 6 by omega), Bool.false_and, Bool.and_false]
    rw [decide_eq_true c2]
    refine iteF ?_
    -- all([..])
    refine ⟨_, rfl, q, rfl, ⟨_, SqL.of hq⟩, fun D nD => ?_⟩
    refine lc_list (K := K) (a := q) (xs := nsV p) (fun i H' => Same H H' ∧ H' D = some (.lst ((p.take i).map fun n => V.bl (asnB n)))) ⟨same_new nD, upd_same⟩ (fun i H' _ ⟨s5, _⟩ => s5.seq (SqL.of hq)) ?_ ?_
    · rintro i x H' hx ⟨s5, hD⟩
      obtain ⟨n, hn, rfl⟩ := nsV_at hx
      refine ⟨rfl, yes_of ⟨_, rfl, n, rfl, _, hD, ?_, fun b o e => ?_, ?_⟩⟩
      · rw [List.length_map, List.length_take]
        have : (6 : Nat) < sizeLine := by decide
        omega
      · have z := s5 b o e
        rw [upd_ne (ne_of_none e nD)]
        exact z
      · rw [upd_same, take_more hn, List.map_append]
        rfl
    · rintro H' ⟨s5, hD⟩
      rw [lenp, List.take_length] at hD
      have e0 : (p.map fun n => V.bl (asnB n)) = (p.map asnB).map V.bl := by rw [List.map_map] <;> rfl
      rw [e0] at hD
      refine ⟨D, _, rfl, SqL.of hD, _, rfl, ?_⟩
      have ea : (p.map asnB).all id = p.all (fun x => decide (1 ≤ x) && decide (x ≤ 9999)) := by rw [List.all_map] <;> rfl
      rw [ea]
      cases c3 : p.all (fun x => decide (1 ≤ x) && decide (x ≤ 9999))
      · refine iteT (no _ ?_ _ s5)
        unfold pathOk
        rw [c3, Bool.false_and, Bool.and_false, Bool.and_false]
      · refine iteF ?_
        refine ⟨_, rfl, q, (p.map fun (n : Nat) => (n : Int)), rfl, ?_, by rw [List.length_map]; omega, fun n hn => ?_⟩
        · rw [← nsV_ints]
          exact s5.seq (SqL.of hq)
        refine ⟨_, rfl, q, nsV p, rfl, .inl (s5.seq (SqL.of hq)), rfl, _, rfl, ?_⟩
        rw [lenp]
        have hnd : n = p.length ↔ p.Nodup := by
          rw [List.length_map] at hn
          rw [hn]
          exact ⟨fun z => nodup_of_map' z, fun z => List.Pairwise.map _ (fun a b (hab : a ≠ b) => fun e => hab (by omega)) z⟩
        have fin : ∀ b : Bool, (p.headD 0 == asn && decide p.Nodup) = b → ∀ H', Same H H' → Q (.bl b) H' := fun b e => no b (by
          unfold pathOk
          rw [c3, e, decide_eq_true (show 1 ≤ p.length by omega), decide_eq_true (show p.length ≤ 6 by omega)]
          rfl)
        by_cases c4 : p.Nodup
        · have e4 : n = p.length := hnd.mpr c4
          have e5 : decide (V.int (n : Int) = V.int (p.length : Int)) = true := by rw [e4]; exact decide_eq_true rfl
          refine (show (if decide (V.int (n : Int) = V.int (p.length : Int)) = true then _ else _) from ?_)
          rw [e5]
          refine iteT ?_
          obtain ⟨a, r, hp⟩ : ∃ a r, p = a :: r := by
            cases p with
            | nil => exact absurd c1 (by decide)
            | cons a r => exact ⟨a, r, rfl⟩
          refine ⟨_, rfl, q, nsV p, 0, nV a, rfl, rfl, s5.seq (SqL.of hq), atI_nat (j := 0) (by rw [hp]; rfl), _, rfl, rfl, ?_⟩
          refine fin _ ?_ _ s5
          rw [decide_eq_true c4, Bool.and_true, hp, Bool.eq_iff_iff, decide_eq_true_eq, beq_iff_eq]
          exact ⟨fun e => by rw [show a = asn from e], fun e => nV_inj e⟩
        · have e5 : decide (V.int (n : Int) = V.int (p.length : Int)) = false := decide_eq_false fun e => c4 (hnd.mp (by have := V.int.inj e; omega))
          refine (show (if decide (V.int (n : Int) = V.int (p.length : Int)) = true then _ else _) from ?_)
          rw [e5]
          refine iteF (fin _ ?_ _ s5)
          rw [decide_eq_false c4, Bool.and_false]
end
end Nhp
/-! Attributes of the three classes. -/
namespace Nhp
open PySem PySem.Spec PyProof.Rows L2 LamX NdefX
theorem lk_here {k : Str} {v : V} {l : List (Str × V)} : ((k, v) :: l).lookup k = some v := by
  show (match k == k with | true => some v | false => l.lookup k) = some v
  rw [beq_self_eq_true]
theorem lk_past {k j : Str} {v : V} {l : List (Str × V)} (h : (k == j) = false) : ((j, v) :: l).lookup k = l.lookup k := by
  show (match k == j with | true => some v | false => l.lookup k) = _
  rw [h]
theorem put_nil {k : Str} {v : V} : putF k v [] = [(k, v)] := rfl
theorem put_here {k : Str} {v w : V} {l : List (Str × V)} : putF k v ((k, w) :: l) = (k, v) :: l := by
  unfold putF
  simp
theorem put_past {k j : Str} {v w : V} {l : List (Str × V)} (h : (j == k) = false) : putF k v ((j, w) :: l) = (j, w) :: putF k v l := by
  rw [putF]
  simp [h, beq_eq_false_iff_ne.mp h]
theorem mF_asn (x : MA) (n : Nat) : List.lookup ("asn" : Str) (mF x n) = some (nV n) := lk_here
theorem mF_export_denials (x : MA) (n : Nat) : List.lookup ("export_denials" : Str) (mF x n) = some (.ref x.d1) := (lk_past (by decide +kernel)).trans lk_here
theorem mF_import_denials (x : MA) (n : Nat) : List.lookup ("import_denials" : Str) (mF x n) = some (.ref x.d2) := (lk_past (by decide +kernel)).trans ((lk_past (by decide +kernel)).trans lk_here)
theorem mF_preferences (x : MA) (n : Nat) : List.lookup ("preferences" : Str) (mF x n) = some (.ref x.d3) := (lk_past (by decide +kernel)).trans ((lk_past (by decide +kernel)).trans ((lk_past (by decide +kernel)).trans lk_here))
theorem no4 {k a b c d : Str} {u v w z : V} (h1 : (k == a) = false) (h2 : (k == b) = false) (h3 : (k == c) = false) (h4 : (k == d) = false) : ([(a, u), (b, v), (c, w), (d, z)] : List (Str × V)).lookup k = none := (lk_past h1).trans ((lk_past h2).trans ((lk_past h3).trans ((lk_past h4).trans rfl)))
theorem no2 {k a b : Str} {u v : V} (h1 : (k == a) = false) (h2 : (k == b) = false) : ([(a, u), (b, v)] : List (Str × V)).lookup k = none := (lk_past h1).trans ((lk_past h2).trans rfl)
theorem mF_no_export_denied (x : MA) (n : Nat) : List.lookup ("export_denied" : Str) (mF x n) = none := no4 (by decide +kernel) (by decide +kernel) (by decide +kernel) (by decide +kernel)
theorem mF_no_import_denied (x : MA) (n : Nat) : List.lookup ("import_denied" : Str) (mF x n) = none := no4 (by decide +kernel) (by decide +kernel) (by decide +kernel) (by decide +kernel)
theorem mF_no_preference_for (x : MA) (n : Nat) : List.lookup ("preference_for" : Str) (mF x n) = none := no4 (by decide +kernel) (by decide +kernel) (by decide +kernel) (by decide +kernel)
theorem rF_announcer (r : Su201.Route) (q : Addr) : List.lookup ("announcer" : Str) (rF r q) = some (nV r.announcer) := lk_here
theorem rF_address (r : Su201.Route) (q : Addr) : List.lookup ("address" : Str) (rF r q) = some (nV r.address) := (lk_past (by decide +kernel)).trans lk_here
theorem rF_length (r : Su201.Route) (q : Addr) : List.lookup ("length" : Str) (rF r q) = some (nV r.length) := (lk_past (by decide +kernel)).trans ((lk_past (by decide +kernel)).trans lk_here)
theorem rF_as_path (r : Su201.Route) (q : Addr) : List.lookup ("as_path" : Str) (rF r q) = some (.ref q) := (lk_past (by decide +kernel)).trans ((lk_past (by decide +kernel)).trans ((lk_past (by decide +kernel)).trans lk_here))
theorem rF_no_is_for (r : Su201.Route) (q : Addr) : List.lookup ("is_for" : Str) (rF r q) = none := no4 (by decide +kernel) (by decide +kernel) (by decide +kernel) (by decide +kernel)
theorem rF_no_contains (r : Su201.Route) (q : Addr) : List.lookup ("contains" : Str) (rF r q) = none := no4 (by decide +kernel) (by decide +kernel) (by decide +kernel) (by decide +kernel)
theorem rF_no_compared_by (r : Su201.Route) (q : Addr) : List.lookup ("compared_by" : Str) (rF r q) = none := no4 (by decide +kernel) (by decide +kernel) (by decide +kernel) (by decide +kernel)
theorem sF_members (a b : Addr) : List.lookup ("members" : Str) (sF a b) = some (.ref a) := lk_here
theorem sF_routes (a b : Addr) : List.lookup ("routes" : Str) (sF a b) = some (.ref b) := (lk_past (by decide +kernel)).trans lk_here
theorem sF_no_with_own_routes (a b : Addr) : List.lookup ("with_own_routes" : Str) (sF a b) = none := no2 (by decide +kernel) (by decide +kernel)
theorem sF_no_has_member (a b : Addr) : List.lookup ("has_member" : Str) (sF a b) = none := no2 (by decide +kernel) (by decide +kernel)
theorem sF_no_has_asn (a b : Addr) : List.lookup ("has_asn" : Str) (sF a b) = none := no2 (by decide +kernel) (by decide +kernel)
theorem sF_no_place_of_route (a b : Addr) : List.lookup ("place_of_route" : Str) (sF a b) = none := no2 (by decide +kernel) (by decide +kernel)
theorem sF_no_is_eligible (a b : Addr) : List.lookup ("is_eligible" : Str) (sF a b) = none := no2 (by decide +kernel) (by decide +kernel)
theorem sF_no_rank (a b : Addr) : List.lookup ("rank" : Str) (sF a b) = none := no2 (by decide +kernel) (by decide +kernel)
theorem sF_no_ranked_routes (a b : Addr) : List.lookup ("ranked_routes" : Str) (sF a b) = none := no2 (by decide +kernel) (by decide +kernel)
theorem sF_no_prefixes_in_order (a b : Addr) : List.lookup ("prefixes_in_order" : Str) (sF a b) = none := no2 (by decide +kernel) (by decide +kernel)
theorem sF_no_routing_table (a b : Addr) : List.lookup ("routing_table" : Str) (sF a b) = none := no2 (by decide +kernel) (by decide +kernel)
theorem sF_no_routing_tables (a b : Addr) : List.lookup ("routing_tables" : Str) (sF a b) = none := no2 (by decide +kernel) (by decide +kernel)
theorem cong_cons {p : Str × V} {l m : List (Str × V)} (h : l = m) : p :: l = p :: m := congrArg _ h
theorem mF_new (x : MA) (n : Nat) : putF "preferences" (.ref x.d3) (putF "import_denials" (.ref x.d2) (putF "export_denials" (.ref x.d1) (putF "asn" (nV n) []))) = mF x n := by
  have e1 : putF "export_denials" (.ref x.d1) (putF "asn" (nV n) []) = ([("asn", nV n), ("export_denials", .ref x.d1)] : List (Str × V)) := (put_past (by decide +kernel)).trans rfl
  have e2 : putF "import_denials" (.ref x.d2) ([("asn", nV n), ("export_denials", .ref x.d1)] : List (Str × V)) = ([("asn", nV n), ("export_denials", .ref x.d1), ("import_denials", .ref x.d2)] : List (Str × V)) := (put_past (by decide +kernel)).trans (cong_cons ((put_past (by decide +kernel)).trans rfl))
  rw [e1, e2]
  exact (put_past (by decide +kernel)).trans (cong_cons ((put_past (by decide +kernel)).trans (cong_cons ((put_past (by decide +kernel)).trans rfl))))
theorem rF_new (r : Su201.Route) (q : Addr) : putF "as_path" (.ref q) (putF "length" (nV r.length) (putF "address" (nV r.address) (putF "announcer" (nV r.announcer) []))) = rF r q := by
  have e1 : putF "address" (nV r.address) (putF "announcer" (nV r.announcer) []) = ([("announcer", nV r.announcer), ("address", nV r.address)] : List (Str × V)) := (put_past (by decide +kernel)).trans rfl
  have e2 : putF "length" (nV r.length) ([("announcer", nV r.announcer), ("address", nV r.address)] : List (Str × V)) = ([("announcer", nV r.announcer), ("address", nV r.address), ("length", nV r.length)] : List (Str × V)) := (put_past (by decide +kernel)).trans (cong_cons ((put_past (by decide +kernel)).trans rfl))
  rw [e1, e2]
  exact (put_past (by decide +kernel)).trans (cong_cons ((put_past (by decide +kernel)).trans (cong_cons ((put_past (by decide +kernel)).trans rfl))))
theorem sF_new (a b : Addr) : putF "routes" (.ref b) (putF "members" (.ref a) []) = sF a b := (put_past (by decide +kernel)).trans rfl
theorem sF_routes_put (a b c : Addr) : putF "routes" (.ref c) (sF a b) = sF a c := (put_past (by decide +kernel)).trans (cong_cons put_here)
theorem sF_members_put (a b c : Addr) : putF "members" (.ref c) (sF a b) = sF c b := put_here
end Nhp
/-! server.py: members and routes -/
namespace Nhp
open PySem PySem.Spec PyProof.Rows L2 LamX NdefX
def spExp (K : PySem.W.Frag) : Sp := fun vs H Q _ => ∃ (x : MA) (m : Su201.Member) (n : Nat), vs = [.ref x.a, nV n] ∧ MemAt (cM K) H x m ∧ Q (nV (Su201.boolToNat (m.exportDenied.contains n))) H
def spImp (K : PySem.W.Frag) : Sp := fun vs H Q _ => ∃ (x : MA) (m : Su201.Member) (n : Nat), vs = [.ref x.a, nV n] ∧ MemAt (cM K) H x m ∧ Q (nV (Su201.boolToNat (m.importDenied.contains n))) H
def spPref (K : PySem.W.Frag) : Sp := fun vs H Q _ => ∃ (x : MA) (m : Su201.Member) (n : Nat), vs = [.ref x.a, nV n] ∧ MemAt (cM K) H x m ∧ Q (nV (prefOf m n)) H
def spIsFor (K : PySem.W.Frag) : Sp := fun vs H Q _ => ∃ (a : Addr) (r : Su201.Route) (n l : Nat), vs = [.ref a, nV n, nV l] ∧ RouAt (cR K) H a r ∧ Q (.bl (r.address == n && r.length == l)) H
def spContains (K : PySem.W.Frag) : Sp := fun vs H Q _ => ∃ (a : Addr) (r : Su201.Route) (n : Nat), vs = [.ref a, nV n] ∧ RouAt (cR K) H a r ∧ Su201.isPrefix r.address r.length = true ∧ Q (.bl (Su201.prefixContains r.address r.length n)) H
def spCompared (K : PySem.W.Frag) : Sp := fun vs H Q _ => ∃ (a : Addr) (dx : Addr) (r : Su201.Route) (q : Addr), vs = [.ref a] ∧ H a = some (.ins (cR K) dx (rF r q)) ∧ ∀ t H', Same H H' → H t = none → H' t = some (.tup [nV r.address, nV r.length, nV r.announcer, .ref q]) → Q (.ref t) H'
section
variable {P : Program} {w : World} {K : PySem.W.Frag} {mg : Str → Option Value} {base : Heap}
theorem sc_exp : FnScope ["self", "peer"] ["self", "peer"] (defScope s_Member_export_denied) := ⟨rfl, rfl, rfl, by decide +kernel, rfl, by decide +kernel, by decide +kernel⟩
theorem ok_exp (T : Txt K mg) : Ok P w K mg base 1 (He.ma K (cM K) "export_denied") ["self", "peer"] (spExp K) := by
  refine ok_of T.d_Member_export_denied sc_exp (fun vs H Q E h => ?_) (fun _ _ _ _ _ _ us hl => match us, hl with | [_, _], _ => rfl) (fun cdv A outer s H vs Q E hr h => ⟨_, pss_one (ps_ret (pe_dget2 (hu_of hr) (pe_fld (pv 0) rfl) (pv 1) pe_int ⟨rfl, rfl, rfl, rfl⟩)), ?_⟩)
  · obtain ⟨x, m, n, rfl, _⟩ := h
    rfl
  · obtain ⟨x, m, n, rfl, hx, h⟩ := h
    obtain ⟨kvs, hd, _, _, hv⟩ := hx.e
    exact ⟨_, rfl, _, _, _, _, _, rfl, hx.o, T.c_Member, T.a_Member_export_denials, mF_export_denials _ _, _, rfl, .inl ⟨kvs, .inl hd⟩, _, rfl, _, DGet.k (k := Sum.inl (n : Int)) hd, q_eq (Q := Q) h (hv n).symm⟩
theorem sc_imp : FnScope ["self", "peer"] ["self", "peer"] (defScope s_Member_import_denied) := ⟨rfl, rfl, rfl, by decide +kernel, rfl, by decide +kernel, by decide +kernel⟩
theorem ok_imp (T : Txt K mg) : Ok P w K mg base 1 (He.ma K (cM K) "import_denied") ["self", "peer"] (spImp K) := by
  refine ok_of T.d_Member_import_denied sc_imp (fun vs H Q E h => ?_) (fun _ _ _ _ _ _ us hl => match us, hl with | [_, _], _ => rfl) (fun cdv A outer s H vs Q E hr h => ⟨_, pss_one (ps_ret (pe_dget2 (hu_of hr) (pe_fld (pv 0) rfl) (pv 1) pe_int ⟨rfl, rfl, rfl, rfl⟩)), ?_⟩)
  · obtain ⟨x, m, n, rfl, _⟩ := h
    rfl
  · obtain ⟨x, m, n, rfl, hx, h⟩ := h
    obtain ⟨kvs, hd, _, _, hv⟩ := hx.i
    exact ⟨_, rfl, _, _, _, _, _, rfl, hx.o, T.c_Member, T.a_Member_import_denials, mF_import_denials _ _, _, rfl, .inl ⟨kvs, .inl hd⟩, _, rfl, _, DGet.k (k := Sum.inl (n : Int)) hd, q_eq (Q := Q) h (hv n).symm⟩
theorem sc_pref : FnScope ["self", "peer"] ["self", "peer"] (defScope s_Member_preference_for) := ⟨rfl, rfl, rfl, by decide +kernel, rfl, by decide +kernel, by decide +kernel⟩
theorem ok_pref (T : Txt K mg) : Ok P w K mg base 1 (He.ma K (cM K) "preference_for") ["self", "peer"] (spPref K) := by
  refine ok_of T.d_Member_preference_for sc_pref (fun vs H Q E h => ?_) (fun _ _ _ _ _ _ us hl => match us, hl with | [_, _], _ => rfl) (fun cdv A outer s H vs Q E hr h => ⟨_, pss_one (ps_ret (pe_dget2 (hu_of hr) (pe_fld (pv 0) rfl) (pv 1) (pe_gi rfl T.i_INITIAL_PREFERENCE) ⟨rfl, rfl, rfl, rfl⟩)), ?_⟩)
  · obtain ⟨x, m, n, rfl, _⟩ := h
    rfl
  · obtain ⟨x, m, n, rfl, hx, h⟩ := h
    obtain ⟨kvs, hd, _, _, hv⟩ := hx.p
    exact ⟨_, rfl, _, _, _, _, _, rfl, hx.o, T.c_Member, T.a_Member_preferences, mF_preferences _ _, _, rfl, .inl ⟨kvs, .inl hd⟩, _, rfl, _, DGet.k (k := Sum.inl (n : Int)) hd, q_eq (Q := Q) h (hv n).symm⟩
theorem dec_nV {a b : Nat} : decide (nV a = nV b) = (a == b) := by
  rw [Bool.eq_iff_iff, decide_eq_true_eq, beq_iff_eq]
  exact ⟨nV_inj, fun e => by rw [e]⟩
theorem sc_is_for : FnScope ["self", "address", "length"] ["self", "address", "length"] (defScope s_Route_is_for) := ⟨rfl, rfl, rfl, by decide +kernel, rfl, by decide +kernel, by decide +kernel⟩
theorem ok_is_for (T : Txt K mg) : Ok P w K mg base 1 (He.ma K (cR K) "is_for") ["self", "address", "length"] (spIsFor K) := by
  refine ok_of T.d_Route_is_for sc_is_for (fun vs H Q E h => ?_) (fun _ _ _ _ _ _ us hl => match us, hl with | [_, _, _], _ => rfl) (fun cdv A outer s H vs Q E hr h => ⟨_, pss_one (ps_ret (pe_and (pe_cmpR op_eq (pe_fld (pv 0) rfl) (pv 1) (nomark _)) (pe_one (pe_cmpR op_eq (pe_fld (pv 0) rfl) (pv 2) (nomark _))))), ?_⟩)
  · obtain ⟨x, m, n, l, rfl, _⟩ := h
    rfl
  · obtain ⟨a, r, n, l, rfl, ⟨dx, q, ho, hq⟩, h⟩ := h
    refine ⟨_, rfl, _, _, _, _, _, rfl, ho, T.c_Route, T.a_Route_address, rF_address _ _, _, rfl, rfl, _, rfl, ?_⟩
    have e1 : decide (nV r.address = nV n) = (r.address == n) := dec_nV
    refine (show (if decide (nV r.address = nV n) = true then _ else _) from ?_)
    rw [e1]
    cases c : r.address == n
    · refine iteF ?_
      rw [c] at h
      exact h
    · refine iteT ⟨_, rfl, _, _, _, _, _, rfl, ho, T.c_Route, T.a_Route_length, rF_length _ _, _, rfl, rfl, ?_⟩
      rw [c] at h
      exact q_eq (Q := Q) h (congrArg V.bl (by rw [dec_nV, Bool.true_and]))
theorem sc_contains : FnScope ["self", "destination"] ["self", "destination"] (defScope s_Route_contains) := ⟨rfl, rfl, rfl, by decide +kernel, rfl, by decide +kernel, by decide +kernel⟩
theorem ok_contains (T : Txt K mg) : Ok P w K mg base 2 (He.ma K (cR K) "contains") ["self", "destination"] (spContains K) := by
  refine ok_of T.d_Route_contains sc_contains (fun vs H Q E h => ?_) (fun _ _ _ _ _ _ us hl => match us, hl with | [_, _], _ => rfl) (fun cdv A outer s H vs Q E hr h => ⟨_, pss_one (ps_ret (pe_chain op_le op_lt (pe_fld (pv 0) rfl) (pv 1) (pe_op op_add (pe_fld (pv 0) rfl) (pe_cl (ok_size T) hr rfl T.g_size_of_prefix (pa_cons (pe_fld (pv 0) rfl) pa_nil))))), ?_⟩)
  · obtain ⟨x, m, n, rfl, _⟩ := h
    rfl
  · obtain ⟨a, r, n, rfl, ⟨dx, q, ho, hq⟩, hp, h⟩ := h
    refine ⟨_, rfl, _, _, _, _, _, rfl, ho, T.c_Route, T.a_Route_address, rF_address _ _, _, rfl, _, _, rfl, rfl, _, rfl, ?_⟩
    have e := contains_is (x := n) hp
    by_cases c : (r.address : Int) ≤ n
    · rw [decide_eq_true c]
      rw [decide_eq_true (show r.address ≤ n by omega), Bool.true_and] at e
      refine iteT ⟨_, rfl, _, _, _, _, _, rfl, ho, T.c_Route, T.a_Route_address, rF_address _ _, _, rfl, _, _, _, _, _, rfl, ho, T.c_Route, T.a_Route_length, rF_length _ _, _, rfl, (isPrefix_iff.mp hp).1, _, _, rfl, rfl, _, _, rfl, rfl, ?_⟩
      refine q_eq (Q := Q) h (congrArg V.bl ?_)
      rw [← e]
      exact decide_eq_decide.mpr (by omega)
    · rw [decide_eq_false c]
      rw [decide_eq_false (show ¬ r.address ≤ n by omega), Bool.false_and] at e
      refine iteF ?_
      rw [← e] at h
      exact h
theorem sc_compared : FnScope ["self"] ["self"] (defScope s_Route_compared_by) := ⟨rfl, rfl, rfl, by decide +kernel, rfl, by decide +kernel, by decide +kernel⟩
theorem ok_compared (T : Txt K mg) : Ok P w K mg base 1 (He.ma K (cR K) "compared_by") ["self"] (spCompared K) := by
  refine ok_of T.d_Route_compared_by sc_compared (fun vs H Q E h => ?_) (fun _ _ _ _ _ _ us hl => match us, hl with | [_], _ => rfl) (fun cdv A outer s H vs Q E hr h => ⟨_, pss_one (ps_ret (pe_tup (pa_cons (pe_fld (pv 0) rfl) (pa_cons (pe_fld (pv 0) rfl) (pa_cons (pe_fld (pv 0) rfl) (pa_cons (pe_fld (pv 0) rfl) pa_nil)))))), ?_⟩)
  · obtain ⟨x, m, n, l, rfl, _⟩ := h
    rfl
  · obtain ⟨a, dx, r, q, rfl, ho, h⟩ := h
    refine ⟨_, rfl, _, _, _, _, _, rfl, ho, T.c_Route, T.a_Route_address, rF_address _ _, _, rfl, _, _, _, _, _, rfl, ho, T.c_Route, T.a_Route_length, rF_length _ _, _, rfl, _, _, _, _, _, rfl, ho, T.c_Route, T.a_Route_announcer, rF_announcer _ _, _, rfl, _, _, _, _, _, rfl, ho, T.c_Route, T.a_Route_as_path, rF_as_path _ _, by show 4 ≤ sizeLine; decide, fun t ht => ?_⟩
    exact h t _ (same_new ht) ht upd_same
end
end Nhp
/-! server.py: small questions of a server -/
namespace Nhp
open PySem PySem.Spec PyProof.Rows L2 LamX NdefX
def spHasMember (K : PySem.W.Frag) : Sp := fun vs H Q _ => ∃ (L : SA) (s : Su201.RouteServer) (m : Nat), vs = [.ref L.a, nV m] ∧ SrvAt K H L s ∧ Q (.bl (s.hasMember m)) H
def spHasAsn (K : PySem.W.Frag) : Sp := fun vs H Q _ => ∃ (L : SA) (s : Su201.RouteServer) (n : Nat), vs = [.ref L.a, nV n] ∧ SrvAt K H L s ∧ s.members.length ≤ 6 ∧ ∀ H', Same H H' → Q (.bl (s.members.any fun x => x.asn == n)) H'
def spPlace (K : PySem.W.Frag) : Sp := fun vs H Q _ => ∃ (L : SA) (s : Su201.RouteServer) (m a l : Nat), vs = [.ref L.a, nV m, nV a, nV l] ∧ SrvAt K H L s ∧ ∀ H', Same H H' → ((∀ x ∈ s.routes, hasKey m a l x = false) → Q .non H') ∧ ∀ (i : Nat) x, s.routes[i]? = some x → hasKey m a l x = true → Q (nV i) H'
def spEligible (K : PySem.W.Frag) : Sp := fun vs H Q _ => ∃ (L : SA) (s : Su201.RouteServer) (a : Addr) (r : Su201.Route) (m : Nat), vs = [.ref L.a, .ref a, nV m] ∧ SrvAt K H L s ∧ RouAt (cR K) H a r ∧ r.announcer < s.members.length ∧ m < s.members.length ∧ Q (.bl (s.isEligible m r)) H
def rkV (k : Int × Int × Int) : List V := [.int k.1, .int k.2.1, .int k.2.2]
def spRank (K : PySem.W.Frag) : Sp := fun vs H Q _ => ∃ (L : SA) (s : Su201.RouteServer) (a : Addr) (r : Su201.Route) (m : Nat), vs = [.ref L.a, .ref a, nV m] ∧ SrvAt K H L s ∧ RouAt (cR K) H a r ∧ r.announcer < s.members.length ∧ m < s.members.length ∧ ∀ t H', Same H H' → H t = none → H' t = some (.tup (rkV (rk s m r))) → Q (.ref t) H'
section
variable {P : Program} {w : World} {K : PySem.W.Frag} {mg : Str → Option Value} {base : Heap}
theorem sc_has_member : FnScope ["self", "member"] ["self", "member"] (defScope s_RouteServer_has_member) := ⟨rfl, rfl, rfl, by decide +kernel, rfl, by decide +kernel, by decide +kernel⟩
theorem ok_has_member (T : Txt K mg) : Ok P w K mg base 1 (He.ma K (cS K) "has_member") ["self", "member"] (spHasMember K) := by
  refine ok_of T.d_RouteServer_has_member sc_has_member (fun vs H Q E h => ?_) (fun _ _ _ _ _ _ us hl => match us, hl with | [_, _], _ => rfl) (fun cdv A outer s H vs Q E hr h => ⟨_, pss_one (ps_ret (pe_cmpR op_lt (pv 1) (pe_callB call_len_seq rfl T.n_len PySem.boot_len (pa_cons (pe_fld (pv 0) rfl) pa_nil)) (nomark _))), ?_⟩)
  · obtain ⟨x, m, n, rfl, _⟩ := h
    rfl
  · obtain ⟨L, s, m, rfl, hs, h⟩ := h
    refine ⟨_, rfl, _, rfl, _, _, _, _, _, rfl, hs.o, T.c_RouteServer, T.a_RouteServer_members, sF_members _ _, _, _, rfl, .inl (SqL.of hs.ml), _, _, rfl, rfl, ?_⟩
    refine q_eq (Q := Q) h (congrArg V.bl ?_)
    show decide (m < s.members.length) = decide ((m : Int) < ((L.ms.map fun x => V.ref x.a).length : Int))
    rw [List.length_map, hs.mem.length]
    exact decide_eq_decide.mpr (by omega)
theorem eqV_nat (a b : Nat) : eqV (nV a) (nV b) = (a == b) := by
  rw [Bool.eq_iff_iff, beq_iff_eq]
  show ((a : Int) == (b : Int)) = true ↔ _
  rw [beq_iff_eq]
  omega
theorem inV_nat (n : Nat) (l : List Nat) : inV (nV n) (nsV l) = l.any (fun x => x == n) := by
  unfold inV nsV
  rw [List.any_map]
  congr 1
  funext x
  exact eqV_nat x n
theorem flat_nats (l : List Nat) : (nsV l).all flatV = true := by
  unfold nsV
  rw [List.all_map, List.all_eq_true]
  intro x _
  rfl
theorem any_contains (n : Nat) (l : List Nat) : l.any (fun x => x == n) = l.contains n := by
  rw [Bool.eq_iff_iff, List.any_eq_true, List.contains_iff_mem]
  exact ⟨fun ⟨x, h, e⟩ => by rw [← beq_iff_eq.mp e]; exact h, fun h => ⟨n, h, beq_self_eq_true _⟩⟩
theorem sc_has_asn : FnScope ["self", "asn", "member"] ["self", "asn"] (defScope s_RouteServer_has_asn) := ⟨rfl, rfl, rfl, by decide +kernel, rfl, by decide +kernel, by decide +kernel⟩
theorem ok_has_asn (T : Txt K mg) : Ok P w K mg base 1 (He.ma K (cS K) "has_asn") ["self", "asn"] (spHasAsn K) := by
  refine ok_of T.d_RouteServer_has_asn sc_has_asn (fun vs H Q E h => ?_) (fun _ _ _ _ _ _ us hl => match us, hl with | [_, _], _ => rfl) (fun cdv A outer s H vs Q E hr h => ⟨_, pss_one (ps_ret (pe_cmpR op_in_seq (pv 1) (pe_lc (own := [("member", 2)]) (g := gName 2) (tt := tYes) rfl sc_has_asn.nd (pi_list (pe_fld (pv 0) rfl)) (blkOk_by (N := ["self", "asn", "member"]) (sc := defScope s_RouteServer_has_asn) (by decide +kernel))
        (fun _ _ _ _ _ => pg_name (i := 2) sc_has_asn.nd rfl (Or.inl rfl)) (fun _ _ _ _ _ => pts_nil) (te := tFld K (tVar 2) "asn") (fun _ _ _ _ _ => pe_fld (pv 2) rfl)) rfl)), ?_⟩)
  · obtain ⟨x, m, n, rfl, _⟩ := h
    rfl
  · obtain ⟨L, s, n, rfl, hs, h6, h⟩ := h
    refine ⟨_, rfl, _, rfl, _, _, _, _, _, rfl, hs.o, T.c_RouteServer, T.a_RouteServer_members, sF_members _ _, _, rfl, ⟨_, SqL.of hs.ml⟩, fun D nD => ?_⟩
    have hl := hs.mem.length
    refine lc_list (K := K) (a := L.ml) (xs := L.ms.map fun x => V.ref x.a) (fun i H' => Same H H' ∧ H' D = some (.lst (nsV ((s.members.take i).map (·.asn))))) ⟨same_new nD, upd_same⟩ (fun i H' _ ⟨s5, _⟩ => s5.seq (SqL.of hs.ml)) ?_ ?_
    · rintro i x H' hx ⟨s5, hD⟩
      rw [List.getElem?_map] at hx
      cases e : L.ms[i]? with
      | none => rw [e] at hx; cases hx
      | some y =>
        rw [e] at hx
        cases hx
        obtain ⟨m, hm, hy⟩ := paired_got hs.mem e
        refine ⟨rfl, yes_of ⟨_, rfl, _, _, _, _, _, rfl, s5 _ _ hy.o, T.c_Member, T.a_Member_asn, mF_asn _ _, _, hD, ?_, fun b o e => ?_, ?_⟩⟩
        · unfold nsV
          rw [List.length_map, List.length_map, List.length_take]
          have : (7 : Nat) < sizeLine := by decide
          omega
        · have z := s5 b o e
          rw [upd_ne (ne_of_none e nD)]
          exact z
        · rw [upd_same, take_more hm]
          unfold nsV
          rw [List.map_append, List.map_append]
          rfl
    · rintro H' ⟨s5, hD⟩
      rw [List.length_map, hl, List.take_length] at hD
      refine ⟨_, _, rfl, .inl (SqL.of hD), rfl, flat_nats _, ?_⟩
      refine q_eq (Q := Q) (h H' s5) (congrArg V.bl ?_)
      show _ = inV (nV n) (nsV _)
      rw [inV_nat, List.any_map]
      rfl
theorem sc_place : FnScope ["self", "announcer", "address", "length", "place", "route"] ["self", "announcer", "address", "length"] (defScope s_RouteServer_place_of_route) := ⟨rfl, rfl, rfl, by decide +kernel, rfl, by decide +kernel, by decide +kernel⟩
theorem ok_place (T : Txt K mg) : Ok P w K mg base 2 (He.ma K (cS K) "place_of_route") ["self", "announcer", "address", "length"] (spPlace K) := by
  refine ok_of T.d_RouteServer_place_of_route sc_place (fun vs H Q E h => ?_) (fun _ _ _ _ _ _ us hl => match us, hl with | [_, _, _, _], _ => rfl) (fun cdv A outer s H vs Q E hr h => ⟨_, pss_cons (ps_for PassesOwn.never rfl (pi_enum rfl T.n_enumerate (pa_cons (pe_fld (pv 0) rfl) pa_nil)) (pg_tup rfl (pgs_cons (pg_name (i := 4) sc_place.nd rfl (.inl rfl)) (pgs_cons (pg_name (i := 5) sc_place.nd rfl (.inl rfl)) pgs_nil)))
      (pss_one (ps_if (PW.pt (pw_and (pt_cmpR op_eq (pe_fld (pv 5) rfl) (pv 1) (nomark _)) (pw_and1 (pt_val (pe_mt (pv 5) T.c_Route T.m_Route_is_for (ok_is_for T) hr (pa_cons (pv 2) (pa_cons (pv 3) pa_nil))))))) (pss_one (ps_ret (pv 4))) pss_nil)))
    (pss_one (ps_ret pe_non)), ?_⟩)
  · obtain ⟨x, m, n, a, b, rfl, _⟩ := h
    rfl
  · obtain ⟨L, s, m, a, l, rfl, hs, h⟩ := h
    have hl := hs.rou.length
    refine ⟨_, rfl, _, _, _, _, _, rfl, hs.o, T.c_RouteServer, T.a_RouteServer_routes, sF_routes _ _, _, _, rfl, SqL.of hs.rl, ?_⟩
    refine for_it (walk_enum (K := K) (a := L.rl) (xs := L.rs.map V.ref)) (fun i σ H' => Same H H' ∧ (∃ u v, σ = [some (.ref L.a), some (nV m), some (nV a), some (nV l), u, v]) ∧ ∀ (j : Nat) x, j < i → s.routes[j]? = some x → hasKey m a l x = false) ⟨Same.refl H, ⟨_, _, rfl⟩, fun j x hj => absurd hj (Nat.not_lt_zero j)⟩ (fun i σ H' _ ⟨s5, _⟩ => s5.seq (SqL.of hs.rl)) ?_ ?_
    · rintro i x σ H1 H2 hi ⟨s5, ⟨u, v, rfl⟩, no⟩ ⟨t, x1, y1, rfl, ht, rfl, e1, e2⟩
      cases e1
      have e2 : (L.rs.map V.ref)[i]? = some y1 := e2
      rw [List.getElem?_map] at e2
      cases e : L.rs[i]? with
      | none => rw [e] at e2; cases e2
      | some b =>
        rw [e] at e2
        cases e2
        obtain ⟨r, hr', hb⟩ := paired_got hs.rou e
        have s6 : Same H (upd H1 t (.tup [V.int (i : Nat), V.ref b])) := s5.trans (same_new ht)
        obtain ⟨dx, q, ho, hq⟩ := hb.ex (exS (T := Tl K) s6)
        refine ⟨_, _, rfl, SqT.of upd_same, rfl, _, _, rfl, _, _, rfl, rfl, _, rfl, _, _, _, _, _, rfl, ho, T.c_Route, T.a_Route_announcer, rF_announcer _ _, _, rfl, rfl, _, rfl, ?_⟩
        refine (show (if decide (nV r.announcer = nV m) = true then _ else _) from ?_)
        rw [dec_nV]
        cases c : r.announcer == m
        · refine iteF (iteF ⟨s6, ⟨_, _, rfl⟩, fun j x hj hx => ?_⟩)
          rcases Nat.lt_succ_iff_lt_or_eq.mp hj with hj | rfl
          · exact no j x hj hx
          · rw [hr'] at hx
            cases hx
            unfold hasKey
            rw [c, Bool.false_and]
        · refine iteT ⟨_, rfl, _, _, _, rfl, ho, rF_no_is_for _ _, _, rfl, _, rfl, _, r, a, l, rfl, ⟨dx, q, ho, hq⟩, _, rfl, ?_⟩
          cases c2 : r.address == a && r.length == l
          · refine iteF ⟨s6, ⟨_, _, rfl⟩, fun j x hj hx => ?_⟩
            rcases Nat.lt_succ_iff_lt_or_eq.mp hj with hj | rfl
            · exact no j x hj hx
            · rw [hr'] at hx
              cases hx
              unfold hasKey
              rw [c2, Bool.and_false]
          · refine iteT ⟨_, rfl, (h _ s6).2 i r hr' ?_⟩
            unfold hasKey
            rw [c, c2]
            rfl
    · rintro σ H' ⟨s5, _, no⟩
      rw [List.length_map, hl] at no
      refine (h H' s5).1 fun x hx => ?_
      obtain ⟨j, hj⟩ := List.mem_iff_getElem?.mp hx
      exact no j x (at_len hj) hj
end
end Nhp
/-! server.py: is_eligible, rank -/
namespace Nhp
open PySem PySem.Spec PyProof.Rows L2 LamX NdefX
section
variable {P : Program} {w : World} {K : PySem.W.Frag} {mg : Str → Option Value} {base : Heap}
theorem boolNat_one (b : Bool) : decide (nV (Su201.boolToNat b) = V.int 1) = b := by
  cases b
  · exact decide_eq_false (by intro e; cases V.int.inj e)
  · exact decide_eq_true rfl
theorem ms_at {L : SA} {m : Nat} {x : MA} (h : L.ms[m]? = some x) : (L.ms.map fun x => V.ref x.a)[m]? = some (V.ref x.a) := by
  rw [List.getElem?_map, h]
  rfl
theorem sc_is_eligible : FnScope ["self", "route", "member"] ["self", "route", "member"] (defScope s_RouteServer_is_eligible) := ⟨rfl, rfl, rfl, by decide +kernel, rfl, by decide +kernel, by decide +kernel⟩
theorem ok_is_eligible (T : Txt K mg) : Ok P w K mg base 2 (He.ma K (cS K) "is_eligible") ["self", "route", "member"] (spEligible K) := by
  refine ok_of T.d_RouteServer_is_eligible sc_is_eligible (fun vs H Q E h => ?_) (fun _ _ _ _ _ _ us hl => match us, hl with | [_, _, _], _ => rfl) (fun cdv A outer s H vs Q E hr h => ⟨_,
    pss_cons (ps_if (pt_cmpR op_eq (pe_fld (pv 1) rfl) (pv 2) (nomark _)) (pss_one (ps_ret pe_bl)) pss_nil)
    (pss_cons (ps_if (pt_cmpR op_eq (pe_mt (pe_ix ix_list (pe_fld (pv 0) rfl) (pe_fld (pv 1) rfl) (fun _ _ => rfl)) T.c_Member T.m_Member_export_denied (ok_exp T) hr (pa_cons (pv 2) pa_nil)) pe_int (nomark _)) (pss_one (ps_ret pe_bl)) pss_nil)
    (pss_cons (ps_if (pt_cmpR op_eq (pe_mt (pe_ix ix_list (pe_fld (pv 0) rfl) (pv 2) (fun _ _ => rfl)) T.c_Member T.m_Member_import_denied (ok_imp T) hr (pa_cons (pe_fld (pv 1) rfl) pa_nil)) pe_int (nomark _)) (pss_one (ps_ret pe_bl)) pss_nil)
    (pss_one (ps_ret (pe_cmpR op_notIn_seq (pe_fld (pe_ix ix_list (pe_fld (pv 0) rfl) (pv 2) (fun _ _ => rfl)) rfl) (pe_fld (pv 1) rfl) rfl))))), ?_⟩)
  · obtain ⟨x, m, n, a, b, rfl, _⟩ := h
    rfl
  · obtain ⟨L, s, a, r, m, rfl, hs, ⟨dx, q, ho, hq⟩, ha, hm, h⟩ := h
    have ee : s.isEligible m r = (r.announcer != m && (!((s.member r.announcer).exportDenied.contains m) && (!((s.member m).importDenied.contains r.announcer) && !(r.asPath.contains (s.member m).asn)))) := rfl
    rw [ee] at h
    obtain ⟨xa, ea, ma⟩ := hs.member ha
    obtain ⟨xm, em, mm⟩ := hs.member hm
    refine ⟨_, rfl, _, _, _, _, _, rfl, ho, T.c_Route, T.a_Route_announcer, rF_announcer _ _, _, rfl, rfl, _, rfl, ?_⟩
    refine (show (if decide (nV r.announcer = nV m) = true then _ else _) from ?_)
    rw [dec_nV]
    cases c : r.announcer == m
    rotate_left
    · rw [show (r.announcer != m) = false from by unfold bne; rw [c]; rfl, Bool.false_and] at h
      exact iteT h
    rw [show (r.announcer != m) = true from by unfold bne; rw [c]; rfl, Bool.true_and] at h
    refine iteF ⟨_, rfl, _, _, _, _, _, rfl, hs.o, T.c_RouteServer, T.a_RouteServer_members, sF_members _ _, _, rfl, _, _, _, _, _, rfl, ho, T.c_Route, T.a_Route_announcer, rF_announcer _ _, _, _, _, _, rfl, rfl, SqL.of hs.ml, atI_nat (ms_at ea), _, _, _, rfl, ma.o, mF_no_export_denied _ _, _, rfl, xa, s.member r.announcer, m, rfl, ma, rfl, _, rfl, ?_⟩
    refine (show (if decide (nV (Su201.boolToNat ((s.member r.announcer).exportDenied.contains m)) = V.int 1) = true then _ else _) from ?_)
    rw [boolNat_one]
    cases c2 : (s.member r.announcer).exportDenied.contains m
    rotate_left
    · rw [c2, Bool.not_true, Bool.false_and] at h
      exact iteT h
    rw [c2, Bool.not_false, Bool.true_and] at h
    refine iteF ⟨_, rfl, _, _, _, _, _, rfl, hs.o, T.c_RouteServer, T.a_RouteServer_members, sF_members _ _, _, rfl, _, _, _, _, rfl, rfl, SqL.of hs.ml, atI_nat (ms_at em), _, _, _, rfl, mm.o, mF_no_import_denied _ _, _, rfl, _, _, _, _, _, rfl, ho, T.c_Route, T.a_Route_announcer, rF_announcer _ _, xm, s.member m, r.announcer, rfl, mm, rfl, _, rfl, ?_⟩
    refine (show (if decide (nV (Su201.boolToNat ((s.member m).importDenied.contains r.announcer)) = V.int 1) = true then _ else _) from ?_)
    rw [boolNat_one]
    cases c3 : (s.member m).importDenied.contains r.announcer
    rotate_left
    · rw [c3, Bool.not_true, Bool.false_and] at h
      exact iteT h
    rw [c3, Bool.not_false, Bool.true_and] at h
    refine iteF ⟨_, rfl, _, _, _, _, _, rfl, hs.o, T.c_RouteServer, T.a_RouteServer_members, sF_members _ _, _, rfl, _, _, _, _, rfl, rfl, SqL.of hs.ml, atI_nat (ms_at em), _, _, _, _, _, rfl, mm.o, T.c_Member, T.a_Member_asn, mF_asn _ _, _, rfl, _, _, _, _, _, rfl, ho, T.c_Route, T.a_Route_as_path, rF_as_path _ _, _, _, rfl, .inl (SqL.of hq), rfl, flat_nats _, ?_⟩
    refine q_eq (Q := Q) h (congrArg V.bl ?_)
    show _ = !(inV (nV (s.member m).asn) (nsV r.asPath))
    rw [inV_nat, any_contains]
theorem sc_rank : FnScope ["self", "route", "member", "preference"] ["self", "route", "member"] (defScope s_RouteServer_rank) := ⟨rfl, rfl, rfl, by decide +kernel, rfl, by decide +kernel, by decide +kernel⟩
theorem ok_rank (T : Txt K mg) : Ok P w K mg base 2 (He.ma K (cS K) "rank") ["self", "route", "member"] (spRank K) := by
  refine ok_of T.d_RouteServer_rank sc_rank (fun vs H Q E h => ?_) (fun _ _ _ _ _ _ us hl => match us, hl with | [_, _, _], _ => rfl) (fun cdv A outer s H vs Q E hr h => ⟨_,
    pss_cons (ps_set (i := 3) sc_rank.nd rfl (.inl rfl) (pe_mt (pe_ix ix_list (pe_fld (pv 0) rfl) (pv 2) (fun _ _ => rfl)) T.c_Member T.m_Member_preference_for (ok_pref T) hr (pa_cons (pe_fld (pv 1) rfl) pa_nil)))
    (pss_one (ps_ret (pe_tup (pa_cons (pe_un un_neg (pv 3)) (pa_cons (pe_callB call_len_seq rfl T.n_len PySem.boot_len (pa_cons (pe_fld (pv 1) rfl) pa_nil)) (pa_cons (pe_fld (pe_ix ix_list (pe_fld (pv 0) rfl) (pe_fld (pv 1) rfl) (fun _ _ => rfl)) rfl) pa_nil)))))), ?_⟩)
  · obtain ⟨x, m, n, a, b, rfl, _⟩ := h
    rfl
  · obtain ⟨L, s, a, r, m, rfl, hs, ⟨dx, q, ho, hq⟩, ha, hm, h⟩ := h
    obtain ⟨xa, ea, ma⟩ := hs.member ha
    obtain ⟨xm, em, mm⟩ := hs.member hm
    refine ⟨_, rfl, _, _, _, _, _, rfl, hs.o, T.c_RouteServer, T.a_RouteServer_members, sF_members _ _, _, rfl, _, _, _, _, rfl, rfl, SqL.of hs.ml, atI_nat (ms_at em), _, _, _, rfl, mm.o, mF_no_preference_for _ _, _, rfl, _, _, _, _, _, rfl, ho, T.c_Route, T.a_Route_announcer, rF_announcer _ _, xm, s.member m, r.announcer, rfl, mm, ?_⟩
    refine ⟨_, rfl, _, rfl, _, rfl, _, _, _, _, _, rfl, ho, T.c_Route, T.a_Route_as_path, rF_as_path _ _, _, _, rfl, .inl (SqL.of hq), _, rfl, _, _, _, _, _, rfl, hs.o, T.c_RouteServer, T.a_RouteServer_members, sF_members _ _, _, rfl, _, _, _, _, _, rfl, ho, T.c_Route, T.a_Route_announcer, rF_announcer _ _, _, _, _, _, rfl, rfl, SqL.of hs.ml, atI_nat (ms_at ea), _, _, _, _, _, rfl, ma.o, T.c_Member, T.a_Member_asn, mF_asn _ _, by show 3 ≤ sizeLine; decide, fun t ht => ?_⟩
    refine h t _ (same_new ht) ht ?_
    rw [upd_same]
    have e : (nsV r.asPath).length = r.asPath.length := List.length_map _
    rw [e]
    rfl
end
end Nhp
/-! What stays where something changes; what an operation promises. -/
namespace Nhp
open PySem PySem.Spec PyProof.Rows L2 LamX NdefX
def NT (o : HO) : Prop := ∀ ps, o ≠ .tbl ps
def Nw (H : Hp) (b : Addr) : Prop := H b = none ∨ ∃ ps, H b = some (.tbl ps)
theorem nt_lst (xs : List V) : NT (.lst xs) := fun _ e => by cases e
theorem nt_tup (xs : List V) : NT (.tup xs) := fun _ e => by cases e
theorem nt_dk (xs : List (Key × V)) : NT (.dK xs) := fun _ e => by cases e
theorem nt_ins (C dx : Addr) (fs : List (Str × V)) : NT (.ins C dx fs) := fun _ e => by cases e
theorem Nw.ne {H : Hp} {p b : Addr} {o : HO} (h : Nw H p) (hb : H b = some o) (n : NT o := by intro _ z; cases z) : b ≠ p := fun e => by
  subst e
  rcases h with h | ⟨ps, h⟩
  · rw [h] at hb; cases hb
  · rw [h] at hb
    exact n ps (Option.some.inj hb).symm
theorem nw_ex {T : List (Addr × Str)} {H H' : Hp} (e : Ex T H H') {b : Addr} (h : Nw H' b) : Nw H b := by
  cases q : H b with
  | none => exact .inl q
  | some o =>
    by_cases z : NT o
    · rcases h with h | ⟨ps, h⟩
      · rw [e.1 b o q z] at h; cases h
      · rw [e.1 b o q z] at h
        exact absurd (Option.some.inj h) (z ps)
    · have ⟨ps, hp⟩ : ∃ ps, o = .tbl ps := Classical.byContradiction fun w => z fun ps e => w ⟨ps, e⟩
      exact .inr ⟨ps, by rw [q, hp]⟩
structure Keep (T : List (Addr × Str)) (F : List Addr) (H H' : Hp) : Prop where
  k : ∀ b o, H b = some o → NT o → b ∉ F → H' b = some o
  s : ∀ b o, H b = some o → NT o → ∃ o', H' b = some o' ∧ NT o'
  t : Tabs T H → Tabs T H'
section
variable {T : List (Addr × Str)} {F G : List Addr} {H H1 H2 H' : Hp} {K : PySem.W.Frag}
theorem Ex.keep (e : Ex T H H') : Keep T F H H' := ⟨fun b o h n _ => e.1 b o h n, fun b o h n => ⟨o, e.1 b o h n, n⟩, e.2⟩
theorem Keep.ex (k : Keep T F H H') (hf : ∀ f ∈ F, Nw H f) : Ex T H H' := ⟨fun b o h n => k.k b o h n fun m => (hf b m).ne h n rfl, k.t⟩
theorem Keep.trans (a : Keep T F H H1) (b : Keep T F H1 H2) : Keep T F H H2 := ⟨fun c o h n m => b.k c o (a.k c o h n m) n m, fun c o h n => by
  obtain ⟨o', h', n'⟩ := a.s c o h n
  exact b.s c o' h' n', fun h => b.t (a.t h)⟩
theorem Keep.mono (a : Keep T F H H') (h : ∀ b ∈ F, b ∈ G) : Keep T G H H' := ⟨fun c o hc n m => a.k c o hc n fun z => m (h c z), a.s, a.t⟩
theorem Keep.refl (T : List (Addr × Str)) (F : List Addr) (H : Hp) : Keep T F H H := (Ex.refl T H).keep
theorem Keep.upd {p : Addr} {o u : HO} (h : H p = some o) (n : NT o) (nu : NT u) (x : ∀ f, o ≠ .ext f) : Keep T [p] H (upd H p u) :=
  ⟨fun b o' hb _ m => (upd_ne fun e => m (by rw [e]; exact List.mem_singleton.mpr rfl)).trans hb,
   fun b o' hb nb => by
    by_cases e : b = p
    · subst e
      exact ⟨u, upd_same, nu⟩
    · exact ⟨o', (upd_ne e).trans hb, nb⟩,
   fun t q hq => by
    obtain ⟨ps, h1, h2, h3⟩ := t q hq
    refine ⟨ps, (upd_ne fun e => ?_).trans h1, h2, fun pos cv hc => ?_⟩
    · rw [e, h] at h1
      exact n ps (Option.some.inj h1)
    · obtain ⟨c, e1, e2⟩ := h3 pos cv hc
      refine ⟨c, e1, (upd_ne fun e => ?_).trans e2⟩
      rw [e, h] at e2
      exact x _ (Option.some.inj e2)⟩
theorem Keep.lst {p : Addr} {xs ys : List V} (h : H p = some (.lst xs)) : Keep T [p] H (L2.upd H p (.lst ys)) := Keep.upd h (nt_lst _) (nt_lst _) fun _ e => by cases e
theorem Keep.at_ (k : Keep T F H H') {b : Addr} {o : HO} (h : H b = some o) (m : b ∉ F) (n : NT o := by intro _ z; cases z) : H' b = some o := k.k b o h n m
theorem nw_keep (k : Keep T F H H') {b : Addr} (h : Nw H' b) : Nw H b := by
  cases q : H b with
  | none => exact .inl q
  | some o =>
    by_cases z : NT o
    · obtain ⟨o', h', n'⟩ := k.s b o q z
      rcases h with h | ⟨ps, h⟩
      · rw [h'] at h; cases h
      · rw [h'] at h
        exact absurd (Option.some.inj h) (n' ps)
    · have ⟨ps, hp⟩ : ∃ ps, o = .tbl ps := Classical.byContradiction fun w => z fun ps e => w ⟨ps, e⟩
      exact .inr ⟨ps, by rw [q, hp]⟩
theorem exN {p : Addr} {o : HO} (h : H p = none) : Ex T H (L2.upd H p o) := exS (same_new h)
theorem not1 {a b : Addr} (h : a ≠ b) : a ∉ [b] := fun m => h (List.mem_singleton.mp m)
/-! ### a state under a change -/
abbrev foot (L : SA) : List Addr := L.a :: L.ml :: L.rl :: dsOf L.ms
theorem RouAt.keep {C a : Addr} {r : Su201.Route} (h : RouAt C H a r) (k : Keep T F H H') (ha : a ∉ F) (hq : ∀ dx q, H a = some (.ins C dx (rF r q)) → q ∉ F) : RouAt C H' a r := by
  obtain ⟨dx, q, h1, h2⟩ := h
  exact ⟨dx, q, k.at_ h1 ha, k.at_ h2 (hq dx q h1)⟩
/-- the kinds of the things that an operation changes -/
def Pf (o : HO) : Prop := (∃ rs : List Addr, o = .lst (rs.map V.ref)) ∨ (∃ kvs : List (Key × V), o = .dK kvs) ∨ ∃ C dx a b, o = .ins C dx (sF a b)
def FootOk (F : List Addr) (H : Hp) : Prop := ∀ f ∈ F, ∃ o, H f = some o ∧ Pf o
theorem pf_not_rou {C dx q : Addr} {r : Su201.Route} (h : Pf (.ins C dx (rF r q))) : False := by
  rcases h with ⟨_, h⟩ | ⟨_, h⟩ | ⟨C', dx', a, b, h⟩
  · cases h
  · cases h
  · have := congrArg List.length (HO.ins.inj h).2.2
    exact absurd this (show ¬ (4 : Nat) = 2 by decide)
theorem pf_not_mem {C dx : Addr} {x : MA} {n : Nat} (h : Pf (.ins C dx (mF x n))) : False := by
  rcases h with ⟨_, h⟩ | ⟨_, h⟩ | ⟨C', dx', a, b, h⟩
  · cases h
  · cases h
  · have := congrArg List.length (HO.ins.inj h).2.2
    exact absurd this (show ¬ (4 : Nat) = 2 by decide)
theorem pf_not_path {l : List Nat} (hl : 1 ≤ l.length) (h : Pf (.lst (nsV l))) : False := by
  rcases h with ⟨rs, h⟩ | ⟨_, h⟩ | ⟨C', dx', a, b, h⟩
  · have h := HO.lst.inj h
    cases l with
    | nil => exact absurd hl (by decide)
    | cons n l =>
      cases rs with
      | nil => cases h
      | cons b rs => cases (List.cons.inj h).1
  · cases h
  · cases h
theorem not_foot {F : List Addr} (ok : FootOk F H) {b : Addr} {o : HO} (hb : H b = some o) (n : Pf o → False) : b ∉ F := fun m => by
  obtain ⟨u, hu, p⟩ := ok b m
  rw [hb] at hu
  exact n ((Option.some.inj hu) ▸ p)
theorem RouAt.keepF {C a : Addr} {r : Su201.Route} (h : RouAt C H a r) (hl : 1 ≤ r.asPath.length) (k : Keep T F H H') (ok : FootOk F H) : RouAt C H' a r := by
  obtain ⟨dx, q, h1, h2⟩ := h
  exact ⟨dx, q, k.at_ h1 (not_foot ok h1 pf_not_rou), k.at_ h2 (not_foot ok h2 (pf_not_path hl))⟩
theorem SrvAt.foot {L : SA} {s : Su201.RouteServer} (h : SrvAt K H L s) : FootOk (foot L) H := by
  intro f hf
  rcases List.mem_cons.mp hf with rfl | hf
  · exact ⟨_, h.o, .inr (.inr ⟨_, _, _, _, rfl⟩)⟩
  rcases List.mem_cons.mp hf with rfl | hf
  · exact ⟨_, h.ml, .inl ⟨L.ms.map (·.a), by rw [List.map_map]; rfl⟩⟩
  rcases List.mem_cons.mp hf with rfl | hf
  · exact ⟨_, h.rl, .inl ⟨_, rfl⟩⟩
  obtain ⟨x, hx, hf⟩ := List.mem_flatMap.mp hf
  obtain ⟨i, hi⟩ := List.mem_iff_getElem?.mp hx
  obtain ⟨m, hm, mm⟩ := paired_got h.mem hi
  simp only [List.mem_cons, List.not_mem_nil, or_false] at hf
  rcases hf with rfl | rfl | rfl
  · obtain ⟨kvs, e, _⟩ := mm.e; exact ⟨_, e, .inr (.inl ⟨_, rfl⟩)⟩
  · obtain ⟨kvs, e, _⟩ := mm.i; exact ⟨_, e, .inr (.inl ⟨_, rfl⟩)⟩
  · obtain ⟨kvs, e, _⟩ := mm.p; exact ⟨_, e, .inr (.inl ⟨_, rfl⟩)⟩
theorem FootOk.sub {F G : List Addr} (h : FootOk F H) (s : ∀ b ∈ G, b ∈ F) : FootOk G H := fun f hf => h f (s f hf)
theorem ds_mem {x : MA} {ms : List MA} (h : x ∈ ms) : x.d1 ∈ dsOf ms ∧ x.d2 ∈ dsOf ms ∧ x.d3 ∈ dsOf ms :=
  ⟨List.mem_flatMap.mpr ⟨x, h, by simp⟩, List.mem_flatMap.mpr ⟨x, h, by simp⟩, List.mem_flatMap.mpr ⟨x, h, by simp⟩⟩
theorem MemAt.keep {C : Addr} {x : MA} {m : Su201.Member} (h : MemAt C H x m) (k : Keep T F H H') (ha : x.a ∉ F) (h1 : x.d1 ∉ F) (h2 : x.d2 ∉ F) (h3 : x.d3 ∉ F) : MemAt C H' x m := by
  refine ⟨k.at_ h.o ha, ?_, ?_, ?_⟩
  · obtain ⟨kvs, e, r⟩ := h.e; exact ⟨kvs, k.at_ e h1, r⟩
  · obtain ⟨kvs, e, r⟩ := h.i; exact ⟨kvs, k.at_ e h2, r⟩
  · obtain ⟨kvs, e, r⟩ := h.p; exact ⟨kvs, k.at_ e h3, r⟩
theorem paired_mem {α β : Type} {R G : α → β → Prop} : ∀ {l : List α} {m : List β}, Paired R l m → (∀ a b, a ∈ l → b ∈ m → R a b → G a b) → Paired G l m
  | _, _, .nil, _ => .nil
  | _, _, .cons h t, k => .cons (k _ _ (List.mem_cons_self ..) (List.mem_cons_self ..) h) (paired_mem t fun a b ha hb => k a b (List.mem_cons_of_mem _ ha) (List.mem_cons_of_mem _ hb))
theorem mems_keep {L : SA} {s : Su201.RouteServer} (h : SrvAt K H L s) (k : Keep T F H H') (ok : FootOk F H) (hd : ∀ d ∈ dsOf L.ms, d ∉ F) : Paired (MemAt (cM K) H') L.ms s.members :=
  paired_mem h.mem fun x m hx _ hm => hm.keep k (not_foot ok hm.o pf_not_mem) (hd _ (ds_mem hx).1) (hd _ (ds_mem hx).2.1) (hd _ (ds_mem hx).2.2)
theorem rous_keep {rs : List Addr} {xs : List Su201.Route} {C : Addr} (h : Paired (RouAt C H) rs xs) (hl : ∀ x ∈ xs, 1 ≤ x.asPath.length) (k : Keep T F H H') (ok : FootOk F H) : Paired (RouAt C H') rs xs :=
  paired_mem h fun a r _ hr z => z.keepF (hl r hr) k ok
theorem TabAt.keepF {C t : Addr} {xs : List Su201.Route} (h : TabAt C H t xs) (hl : ∀ x ∈ xs, 1 ≤ x.asPath.length) (ht : t ∉ F) (k : Keep T F H H') (ok : FootOk F H) : TabAt C H' t xs := by
  obtain ⟨rs, h1, h2⟩ := h
  exact ⟨rs, k.at_ h1 ht, rous_keep h2 hl k ok⟩
/-- the server's own things are apart -/
theorem SrvAt.a_ml {L : SA} {s : Su201.RouteServer} (h : SrvAt K H L s) : L.a ≠ L.ml := ne_of h.o h.ml (by intro z; cases z)
theorem SrvAt.a_rl {L : SA} {s : Su201.RouteServer} (h : SrvAt K H L s) : L.a ≠ L.rl := ne_of h.o h.rl (by intro z; cases z)
theorem SrvAt.ds {L : SA} {s : Su201.RouteServer} (h : SrvAt K H L s) {d : Addr} (hd : d ∈ dsOf L.ms) : ∃ kvs : List (Key × V), H d = some (.dK kvs) := by
  obtain ⟨x, hx, hf⟩ := List.mem_flatMap.mp hd
  obtain ⟨i, hi⟩ := List.mem_iff_getElem?.mp hx
  obtain ⟨m, hm, mm⟩ := paired_got h.mem hi
  simp only [List.mem_cons, List.not_mem_nil, or_false] at hf
  rcases hf with rfl | rfl | rfl
  · obtain ⟨kvs, e, _⟩ := mm.e; exact ⟨_, e⟩
  · obtain ⟨kvs, e, _⟩ := mm.i; exact ⟨_, e⟩
  · obtain ⟨kvs, e, _⟩ := mm.p; exact ⟨_, e⟩
/-! ### what an operation promises -/
def resV (r : Su201.Result) : List V := (resI r).map V.int
theorem resV_is (r : Su201.Result) : resV r = V.int r.value :: nsV r.fields := by
  unfold resV resI Su201Neutral.outs nsV
  rw [List.map_cons, List.map_map]
  rfl
def Done (K : PySem.W.Frag) (F : List Addr) (L : SA) (q : Addr) (r : Su201.RouteServer × Su201.Result) (H : Hp) (Q : VK) : Prop :=
  ∀ H' L' p, Keep (Tl K) F H H' → L'.a = L.a → (∀ b ∈ Nhp.foot L', b ∈ Nhp.foot L ∨ Nw H b) → (∀ a ∈ L'.rs, a ∈ L.rs ∨ ∃ dx x, H' a = some (.ins (cR K) dx (rF x q))) → SrvAt K H' L' r.1 → Nw H p → H' p = some (.lst (resV r.2)) → Q (.ref p) H'
theorem Done.mono {L : SA} {q : Addr} {r : Su201.RouteServer × Su201.Result} {Q : VK} (h : Done K G L q r H Q) (s : ∀ b ∈ F, b ∈ G) : Done K F L q r H Q :=
  fun H' L' p k a f rs sv np hp => h H' L' p (k.mono s) a f rs sv np hp
/-- a report's end: nothing but new things -/
theorem Done.rep {L : SA} {q : Addr} {s : Su201.RouteServer} {z : Su201.Result} {Q : VK} (h : Done K F L q (s, z) H Q) (hs : SrvAt K H L s) (e : Ex (Tl K) H H') {p : Addr} (np : Nw H p) (hp : H' p = some (.lst (resV z))) : Q (.ref p) H' :=
  h H' L p e.keep rfl (fun b hb => .inl hb) (fun a ha => .inl ha) (hs.ex e) np hp
end
end Nhp
/-! server.py: ranked_routes, prefixes_in_order -/
namespace Nhp
open PySem PySem.Spec PyProof.Rows L2 LamX NdefX
def spRanked (K : PySem.W.Frag) : Sp := fun vs H Q _ => ∃ (L : SA) (s : Su201.RouteServer) (m a l : Nat), vs = [.ref L.a, nV m, nV a, nV l] ∧ SrvAt K H L s ∧ Wf s ∧ m < s.members.length ∧ Tabs (Tl K) H ∧
  ∀ H' p, Ex (Tl K) H H' → Nw H p → TabAt (cR K) H' p (s.eligibleRoutes m a l) → Q (.ref p) H'
def spPrefixes (K : PySem.W.Frag) : Sp := fun vs H Q _ => ∃ (L : SA) (s : Su201.RouteServer), vs = [.ref L.a] ∧ SrvAt K H L s ∧ Wf s ∧
  ∀ H' p (ts : List Addr), Ex (Tl K) H H' → Nw H p → H' p = some (.lst (ts.map V.ref)) → Paired (fun t (z : Nat × Nat) => H' t = some (.tup [nV z.1, nV z.2])) ts s.prefixes → Q (.ref p) H'
section
variable {P : Program} {w : World} {K : PySem.W.Frag} {mg : Str → Option Value} {base : Heap}
theorem line_lt {n : Nat} (h : n ≤ 100) : n < sizeLine := by
  have : (100 : Nat) < sizeLine := by decide
  omega
theorem refs_len (rs : List Addr) : (rs.map V.ref).length = rs.length := List.length_map _
theorem take_filter {α : Type} {p : α → Bool} {l : List α} {i : Nat} {x : α} (h : l[i]? = some x) : (l.take (i + 1)).filter p = if p x = true then (l.take i).filter p ++ [x] else (l.take i).filter p := by
  rw [take_more h, List.filter_append, List.filter_cons]
  by_cases c : p x = true
  · rw [if_pos c, if_pos c]; rfl
  · rw [if_neg c, if_neg c, List.filter_nil, List.append_nil]
theorem filter_take_len {α : Type} {p : α → Bool} {l : List α} {i : Nat} : ((l.take i).filter p).length ≤ l.length := Nat.le_trans (List.length_filter_le ..) (by rw [List.length_take]; omega)
theorem paired_snoc {α β : Type} {R : α → β → Prop} : ∀ {l : List α} {m : List β} {x : α} {y : β}, Paired R l m → R x y → Paired R (l ++ [x]) (m ++ [y])
  | _, _, _, _, .nil, h => .cons h .nil
  | _, _, _, _, .cons r t, h => .cons r (paired_snoc t h)
theorem sqlen {C : Addr} {H : Hp} {rs : List Addr} {xs : List Su201.Route} (h : Paired (RouAt C H) rs xs) : (rs.map V.ref).length = xs.length := by rw [List.length_map, h.length]
theorem ex_put {T : List (Addr × Str)} {H H' : Hp} {D : Addr} {xs ys : List V} (e : Ex T H H') (nD : H D = none) (hD : H' D = some (.lst xs)) : Ex T H (upd H' D (.lst ys)) :=
  ((e.keep (F := [D])).trans (Keep.lst hD)).ex fun f hf => .inl (by rw [List.mem_singleton.mp hf]; exact nD)
/-- a filtering comprehension over routes: its invariant -/
def FilI (K : PySem.W.Frag) (D : Addr) (H : Hp) (p : Su201.Route → Bool) (xs : List Su201.Route) (i : Nat) (H' : Hp) : Prop :=
  Ex (Tl K) H H' ∧ ∃ rs : List Addr, H' D = some (.lst (rs.map V.ref)) ∧ Paired (RouAt (cR K) H) rs ((xs.take i).filter p)
theorem fil_0 {D : Addr} {H : Hp} {p : Su201.Route → Bool} {xs : List Su201.Route} (nD : H D = none) : FilI K D H p xs 0 (upd H D (.lst [])) := ⟨exN nD, [], upd_same, .nil⟩
theorem fil_yes {D b : Addr} {H H' : Hp} {p : Su201.Route → Bool} {xs : List Su201.Route} {i : Nat} {r : Su201.Route} (f : FilI K D H p xs i H') (nD : H D = none) (hl : xs.length ≤ 100) (hr : xs[i]? = some r) (hb : RouAt (cR K) H b r) (c : p r = true) :
    ∃ acc, H' D = some (.lst acc) ∧ acc.length < sizeLine ∧ FilI K D H p xs (i + 1) (upd H' D (.lst (acc ++ [V.ref b]))) := by
  obtain ⟨e, rs, hD, pr⟩ := f
  refine ⟨_, hD, line_lt (Nat.le_trans (by rw [List.length_map, pr.length]; exact filter_take_len) hl), ex_put e nD hD, rs ++ [b], by rw [upd_same, List.map_append]; rfl, ?_⟩
  rw [take_filter hr, if_pos c]
  exact paired_snoc pr hb
theorem fil_no {D : Addr} {H H' : Hp} {p : Su201.Route → Bool} {xs : List Su201.Route} {i : Nat} {r : Su201.Route} (f : FilI K D H p xs i H') (hr : xs[i]? = some r) (c : p r = false) : FilI K D H p xs (i + 1) H' := by
  obtain ⟨e, rs, hD, pr⟩ := f
  refine ⟨e, rs, hD, ?_⟩
  rw [take_filter hr, if_neg (by rw [c]; exact Bool.false_ne_true)]
  exact pr
theorem rs_at {C : Addr} {H : Hp} {rs : List Addr} {xs : List Su201.Route} {i : Nat} {x : V} (h : Paired (RouAt C H) rs xs) (hx : (rs.map V.ref)[i]? = some x) : ∃ b r, x = .ref b ∧ xs[i]? = some r ∧ RouAt C H b r := by
  rw [List.getElem?_map] at hx
  cases e : rs[i]? with
  | none => rw [e] at hx; cases hx
  | some b =>
    rw [e] at hx
    obtain ⟨r, hr, hb⟩ := paired_got h e
    exact ⟨b, r, (Option.some.inj hx).symm, hr, hb⟩
theorem fil_end {D : Addr} {H H' : Hp} {p : Su201.Route → Bool} {xs : List Su201.Route} {n : Nat} (hn : n = xs.length) (f : FilI K D H p xs n H') : Ex (Tl K) H H' ∧ ∃ rs : List Addr, H' D = some (.lst (rs.map V.ref)) ∧ Paired (RouAt (cR K) H) rs (xs.filter p) := by
  obtain ⟨e, rs, hD, pr⟩ := f
  rw [hn, List.take_length] at pr
  exact ⟨e, rs, hD, pr⟩
/-! the key of an address -/
noncomputable def keyOf (K : PySem.W.Frag) (H : Hp) (f : Su201.Route → Int × Int × Int) : V → Int × Int × Int
  | .ref a => (open Classical in if h : ∃ r, RouAt (cR K) H a r then f h.choose else (0, 0, 0))
  | _ => (0, 0, 0)
theorem keyOf_is {H : Hp} {f : Su201.Route → Int × Int × Int} {a : Addr} {r : Su201.Route} (h : RouAt (cR K) H a r) : keyOf K H f (.ref a) = f r := by
  have z : ∃ r, RouAt (cR K) H a r := ⟨r, h⟩
  unfold keyOf
  simp only [dif_pos z]
  rw [rou_fun z.choose_spec h]
theorem paired_perm {α β : Type} {R : α → β → Prop} {l l' : List α} (p : l'.Perm l) : ∀ {m : List β}, Paired R l m → ∃ m', m'.Perm m ∧ Paired R l' m' := by
  induction p with
  | nil => intro m h; exact ⟨m, List.Perm.refl _, h⟩
  | cons x _ ih =>
    intro m h
    cases h with
    | cons r t =>
      obtain ⟨m', p, q⟩ := ih t
      exact ⟨_, List.Perm.cons _ p, .cons r q⟩
  | swap x y l =>
    intro m h
    cases h with
    | cons r t =>
      cases t with
      | cons r2 t => exact ⟨_, List.Perm.swap .., .cons r2 (.cons r t)⟩
  | trans _ _ ih1 ih2 =>
    intro m h
    obtain ⟨m1, p1, q1⟩ := ih2 h
    obtain ⟨m2, p2, q2⟩ := ih1 q1
    exact ⟨m2, p2.trans p1, q2⟩
theorem paired_right {α β : Type} {R : α → β → Prop} {l : List α} {m : List β} (h : Paired R l m) : ∀ y ∈ m, ∃ x ∈ l, R x y := by
  intro y hy
  obtain ⟨i, hi⟩ := List.mem_iff_getElem?.mp hy
  obtain ⟨x, hx, r⟩ := paired_get h hi
  exact ⟨x, List.mem_of_getElem? hx, r⟩
theorem paired_left {α β : Type} {R : α → β → Prop} {l : List α} {m : List β} (h : Paired R l m) : ∀ x ∈ l, ∃ y ∈ m, R x y := by
  intro x hx
  obtain ⟨i, hi⟩ := List.mem_iff_getElem?.mp hx
  obtain ⟨y, hy, r⟩ := paired_got h hi
  exact ⟨y, List.mem_of_getElem? hy, r⟩
theorem paired_pairwise {α β : Type} {R : α → β → Prop} {A : α → α → Prop} {B : β → β → Prop} (k : ∀ a b x y, R a x → R b y → A a b → B x y) : ∀ {l : List α} {m : List β}, Paired R l m → l.Pairwise A → m.Pairwise B
  | _, _, .nil, _ => List.Pairwise.nil
  | _, _, .cons r t, h => by
    obtain ⟨h1, h2⟩ := List.pairwise_cons.mp h
    refine List.pairwise_cons.mpr ⟨fun y hy => ?_, paired_pairwise k t h2⟩
    obtain ⟨x, hx, rx⟩ := paired_right t y hy
    exact k _ _ _ _ r rx (h1 x hx)
theorem unref {R : Addr → Su201.Route → Prop} : ∀ {ys : List V} {xs : List Su201.Route}, Paired (fun v r => ∃ a, v = V.ref a ∧ R a r) ys xs → ∃ rs : List Addr, ys = rs.map V.ref ∧ Paired R rs xs
  | _, _, .nil => ⟨[], rfl, .nil⟩
  | _, _, .cons ⟨a, e, r⟩ t => by
    obtain ⟨rs, e2, p⟩ := unref t
    exact ⟨a :: rs, by rw [e, e2]; rfl, .cons r p⟩
theorem reref {R : Addr → Su201.Route → Prop} : ∀ {rs : List Addr} {xs : List Su201.Route}, Paired R rs xs → Paired (fun v r => ∃ a, v = V.ref a ∧ R a r) (rs.map V.ref) xs
  | _, _, .nil => .nil
  | _, _, .cons r t => .cons ⟨_, rfl, r⟩ (reref t)
theorem sc_ranked_routes : FnScope ["self", "member", "address", "length", "candidates", "eligible", "route"] ["self", "member", "address", "length"] (defScope s_RouteServer_ranked_routes) := ⟨rfl, rfl, rfl, by decide +kernel, rfl, by decide +kernel, by decide +kernel⟩
theorem lamq1 : d_RouteServer_ranked_routes.qual ++ ".<locals>." ++ "<lambda>" = ("RouteServer.ranked_routes.<locals>.<lambda>" : Str) := by decide +kernel
theorem free_ranked : ∀ y ∈ ([("route", .local), ("member", .free), ("self", .free)] : List (Str × NameKind)), y.2 = .free → (defScope s_RouteServer_ranked_routes).names.lookup y.1 = some .cell ∨ (defScope s_RouteServer_ranked_routes).names.lookup y.1 = some .free := by decide +kernel
theorem ok_ranked (T : Txt K mg) (TB : TabB base mg (He.cT K tp1).1 (He.cT K tp1).2) : Ok P w K mg base 6 (He.ma K (cS K) "ranked_routes") ["self", "member", "address", "length"] (spRanked K) := by
  refine ok_ofC (d := tp1) T.d_RouteServer_ranked_routes sc_ranked_routes (fun vs H Q E h => ?_) (fun _ _ _ _ _ _ us hl => match us, hl with | [_, _, _, _], _ => rfl) (fun A outer s H vs Q E hr h => ⟨_,
    pss_cons (ps_setLc (i := 4) (own := [("route", 6)]) (g := gName 6) (tt := _) rfl sc_ranked_routes.nd rfl rfl (sw_true rfl rfl rfl (by decide +kernel)) (pi_list (pe_fld (pv 0) rfl)) (blkOk_by (N := ["self", "member", "address", "length", "candidates", "eligible", "route"]) (sc := defScope s_RouteServer_ranked_routes) (by decide +kernel))
        (fun _ _ _ _ _ => pg_name (i := 6) sc_ranked_routes.nd rfl (Or.inl rfl)) (fun _ _ _ _ _ => pts_one (pt_val (pe_mt (pv 6) T.c_Route T.m_Route_is_for (ok_is_for T) (hr.mono (by decide)) (pa_cons (pv 2) (pa_cons (pv 3) pa_nil))))) (fun _ _ _ _ _ => pv 6))
    (pss_cons (ps_setLc (i := 5) (own := [("route", 6)]) (g := gName 6) (tt := _) rfl sc_ranked_routes.nd rfl rfl (sw_true rfl rfl rfl (by decide +kernel)) (pi_list (pv 4)) (blkOk_by (N := ["self", "member", "address", "length", "candidates", "eligible", "route"]) (sc := defScope s_RouteServer_ranked_routes) (by decide +kernel))
        (fun _ _ _ _ _ => pg_name (i := 6) sc_ranked_routes.nd rfl (Or.inl rfl)) (fun _ _ _ _ _ => pts_one (pt_val (pe_mt (pv 0) T.c_RouteServer T.m_RouteServer_is_eligible (ok_is_eligible T) (hr.mono (by decide)) (pa_cons (pv 6) (pa_cons (pv 1) pa_nil))))) (fun _ _ _ _ _ => pv 6))
    (pss_one (ps_ret (pe_sortedKey (T := Tl K) (k := 2) (N := ["route", "self", "member"]) (fr := ["self", "member"]) (js := [0, 1]) rfl T.n_sorted TB rfl ?_ ?_ hr rfl ⟨rfl, rfl, rfl, by decide +kernel, rfl, by decide +kernel, by decide +kernel, by decide +kernel, by decide +kernel⟩ free_ranked (by decide +kernel) rfl (fun _ _ _ _ _ us hl => match us, hl with | [_], _ => rfl) (pv 5)
        (fun f c' A' outer' s' H' hr2 => pe_mt (pv 1) T.c_RouteServer T.m_RouteServer_rank (ok_rank T) hr2 (pa_cons (pv 0) (pa_cons (pv 2) pa_nil))))))), ?_⟩)
  · obtain ⟨x, m, n, a, b, rfl, _⟩ := h
    rfl
  · exact List.mem_cons.mpr (.inl (Prod.ext rfl lamq1))
  · intro p hp e
    rcases List.mem_cons.mp hp with rfl | hp
    · exact lamq1.symm
    · rcases List.mem_cons.mp hp with rfl | hp
      · exact absurd e.symm T.tne
      · cases hp
  · obtain ⟨L, s, m, a, l, rfl, hs, wf, hm, tb, h⟩ := h
    have r20 := wf.r20
    refine ⟨_, rfl, _, _, _, _, _, rfl, hs.o, T.c_RouteServer, T.a_RouteServer_routes, sF_routes _ _, _, rfl, ⟨_, SqL.of hs.rl⟩, fun D nD => ?_⟩
    refine lc_list (K := K) (a := L.rl) (xs := L.rs.map V.ref) (fun i H' => FilI K D H (fun x => x.address == a && x.length == l) s.routes i H') (fil_0 nD) (fun i H' _ f => SqL.of (f.1.at_ hs.rl)) ?_ ?_
    · intro i x H' hx f
      obtain ⟨b, r, rfl, hr', hb⟩ := rs_at hs.rou hx
      obtain ⟨dx, q, ho, hq⟩ := hb.ex f.1
      refine ⟨rfl, _, rfl, _, _, _, rfl, ho, rF_no_is_for _ _, _, rfl, _, rfl, b, r, a, l, rfl, ⟨dx, q, ho, hq⟩, _, rfl, ?_⟩
      exact if_of (fun c => ⟨_, rfl, fil_yes f nD (by omega) hr' hb c⟩) (fun c => fil_no f hr' c)
    · intro H1 f
      obtain ⟨e1, rs1, hD1, pr1⟩ := fil_end (sqlen hs.rou) f
      have hs1 := hs.ex e1
      have pr1' := rous_ex pr1 e1
      have in1 : ∀ r ∈ s.routes.filter (fun x => x.address == a && x.length == l), r ∈ s.routes := fun r hr => (List.mem_filter.mp hr).1
      have l1 : (s.routes.filter (fun x => x.address == a && x.length == l)).length ≤ 100 := Nat.le_trans (List.length_filter_le ..) (by omega)
      refine ⟨_, rfl, _, rfl, ⟨_, SqL.of hD1⟩, fun D2 nD2 => ?_⟩
      refine lc_list (K := K) (a := D) (xs := rs1.map V.ref) (fun i H' => FilI K D2 H1 (fun x => s.isEligible m x) (s.routes.filter (fun x => x.address == a && x.length == l)) i H') (fil_0 nD2) (fun i H' _ f => SqL.of (f.1.at_ hD1)) ?_ ?_
      · intro i x H' hx f
        obtain ⟨b, r, rfl, hr', hb⟩ := rs_at pr1' hx
        refine ⟨rfl, _, rfl, _, _, _, rfl, (hs1.ex f.1).o, sF_no_is_eligible _ _, _, rfl, _, rfl, L, s, b, r, m, rfl, hs1.ex f.1, hb.ex f.1, (wf.rt r (in1 r (List.mem_of_getElem? hr'))).ann, hm, _, rfl, ?_⟩
        exact if_of (fun c => ⟨_, rfl, fil_yes f nD2 l1 hr' hb c⟩) (fun c => fil_no f hr' c)
      · intro H2 f2
        obtain ⟨e2, rs2, hD2, pr2⟩ := fil_end (sqlen pr1') f2
        have in2 : ∀ r ∈ (s.routes.filter (fun x => x.address == a && x.length == l)).filter (fun x => s.isEligible m x), r ∈ s.routes := fun r hr => in1 r (List.mem_filter.mp hr).1
        refine ⟨_, rfl, D2, rs2.map V.ref, keyOf K H1 (rk s m), rfl, SqL.of hD2, fun x hx => ?_, e2.2 (e1.2 tb), fun H3 x3 t3 => ?_⟩
        · obtain ⟨b, _, e⟩ := List.mem_map.mp hx
          exact ⟨b, e.symm⟩
        have e3 : Ex (Tl K) H2 H3 := ⟨x3, fun _ => t3⟩
        refine ⟨SqL.of (e3.at_ hD2), fun y hy H' s' => ?_, fun ys p H' s' np hp perm srt => ?_⟩
        · obtain ⟨b, hb, rfl⟩ := List.mem_map.mp hy
          obtain ⟨r, hr', rb⟩ := paired_left pr2 b hb
          have e4 : Ex (Tl K) H1 H' := (e2.trans e3).trans (exS s')
          refine ⟨_, rfl, _, _, _, rfl, (hs1.ex e4).o, sF_no_rank _ _, _, rfl, _, rfl, L, s, b, r, m, rfl, hs1.ex e4, rb.ex e4, (wf.rt r (in2 r hr')).ann, hm, fun t H5 s5 nt ht => ⟨s5, t, rfl, ?_⟩⟩
          rw [keyOf_is rb]
          exact ht
        · have e4 : Ex (Tl K) H1 H' := (e2.trans e3).trans (exS s')
          obtain ⟨out, po, qo⟩ := paired_perm perm (reref pr2)
          refine h H' p (e1.trans e4) (nw_ex (e1.trans (e2.trans e3)) (.inl np)) ?_
          obtain ⟨rs3, rfl, q3⟩ := unref qo
          have oe : out = s.eligibleRoutes m a l := by
            refine eligible_is wf po (paired_pairwise (fun v u x y hx hy hlt => ?_) qo srt)
            obtain ⟨av, rfl, rv⟩ := hx
            obtain ⟨au, rfl, ru⟩ := hy
            unfold nab
            rw [better_is]
            rw [keyOf_is rv, keyOf_is ru] at hlt
            exact hlt
          rw [← oe]
          exact ⟨rs3, hp, rous_ex q3 e4⟩
end
end Nhp
/-! server.py: prefixes_in_order -/
namespace Nhp
open PySem PySem.Spec PyProof.Rows L2 LamX NdefX
section
variable {P : Program} {w : World} {K : PySem.W.Frag} {mg : Str → Option Value} {base : Heap}
def keyL (r : Su201.Route) : List Int := [(r.address : Int), (r.length : Int)]
theorem ks_of {H : Hp} : ∀ {ts : List Addr} {xs : List Su201.Route}, Paired (fun t (r : Su201.Route) => H t = some (.tup [nV r.address, nV r.length])) ts xs →
    ∃ ks : List (Addr × List Int), ks.map (fun p => V.ref p.1) = ts.map V.ref ∧ ks.map (·.2) = xs.map keyL ∧ ∀ p ∈ ks, H p.1 = some (.tup (p.2.map V.int))
  | _, _, .nil => ⟨[], rfl, rfl, fun _ h => by cases h⟩
  | t :: _, r :: _, .cons h t' => by
    obtain ⟨ks, e1, e2, e3⟩ := ks_of t'
    refine ⟨(t, keyL r) :: ks, by rw [List.map_cons, e1]; rfl, by rw [List.map_cons, e2]; rfl, fun p hp => ?_⟩
    rcases List.mem_cons.mp hp with rfl | hp
    · exact h
    · exact e3 p hp
theorem sc_prefixes : FnScope ["self", "route"] ["self"] (defScope s_RouteServer_prefixes_in_order) := ⟨rfl, rfl, rfl, by decide +kernel, rfl, by decide +kernel, by decide +kernel⟩
def prP (q : Addr × List Int) : Nat × Nat := ((q.2.headD 0).toNat, (q.2.getD 1 0).toNat)
theorem ok_prefixes (T : Txt K mg) : Ok P w K mg base 1 (He.ma K (cS K) "prefixes_in_order") ["self"] (spPrefixes K) := by
  refine ok_of T.d_RouteServer_prefixes_in_order sc_prefixes (fun vs H Q E h => ?_) (fun _ _ _ _ _ _ us hl => match us, hl with | [_], _ => rfl) (fun cdv A outer s H vs Q E hr h => ⟨_,
    pss_one (ps_ret (pe_callB (cr_sortedT rfl) rfl T.n_sorted (by decide +kernel) (pa_cons (pe_callTy (cr_setOfT rfl hr.units) rfl T.n_set PyProof.Rows.boot_set (pa_cons (pe_lc (own := [("route", 1)]) (g := gName 1) (tt := tYes) rfl sc_prefixes.nd (pi_list (pe_fld (pv 0) rfl)) (blkOk_by (N := ["self", "route"]) (sc := defScope s_RouteServer_prefixes_in_order) (by decide +kernel))
        (fun _ _ _ _ _ => pg_name (i := 1) sc_prefixes.nd rfl (Or.inl rfl)) (fun _ _ _ _ _ => pts_nil) (te := tTup (tCons (tFld K (tVar 1) "address") (tCons (tFld K (tVar 1) "length") tNil))) (fun _ _ _ _ _ => pe_tup (pa_cons (pe_fld (pv 1) rfl) (pa_cons (pe_fld (pv 1) rfl) pa_nil)))) pa_nil)) pa_nil))), ?_⟩)
  · obtain ⟨x, m, rfl, _⟩ := h
    rfl
  · obtain ⟨L, s, rfl, hs, wf, h⟩ := h
    have r20 := wf.r20
    refine ⟨_, rfl, _, _, _, _, _, rfl, hs.o, T.c_RouteServer, T.a_RouteServer_routes, sF_routes _ _, _, rfl, ⟨_, SqL.of hs.rl⟩, fun D nD => ?_⟩
    refine lc_list (K := K) (a := L.rl) (xs := L.rs.map V.ref) (fun i H' => Ex (Tl K) H H' ∧ ∃ ts : List Addr, H' D = some (.lst (ts.map V.ref)) ∧ Paired (fun t (r : Su201.Route) => H' t = some (.tup [nV r.address, nV r.length])) ts (s.routes.take i)) ⟨exN nD, [], upd_same, .nil⟩ (fun i H' _ f => SqL.of (f.1.at_ hs.rl)) ?_ ?_
    · rintro i x H' hx ⟨e, ts, hD, pr⟩
      obtain ⟨b, r, rfl, hr', hb⟩ := rs_at hs.rou hx
      obtain ⟨dx, q, ho, hq⟩ := hb.ex e
      refine ⟨rfl, yes_of ⟨_, rfl, _, _, _, _, _, rfl, ho, T.c_Route, T.a_Route_address, rF_address _ _, _, rfl, _, _, _, _, _, rfl, ho, T.c_Route, T.a_Route_length, rF_length _ _, by show 2 ≤ sizeLine; decide, fun t nt => ?_⟩⟩
      have hD2 : upd H' t (.tup [nV r.address, nV r.length]) D = some (.lst (ts.map V.ref)) := (upd_ne (ne_of_none hD nt)).trans hD
      have hlen : ts.length = min i s.routes.length := by rw [pr.length, List.length_take]
      refine ⟨_, hD2, line_lt (by rw [List.length_map]; omega), ex_put (e.trans (exN nt)) nD hD2, ts ++ [t], by rw [upd_same, List.map_append]; rfl, ?_⟩
      rw [take_more hr']
      have tD : ∀ {c : Addr} {zs : List V}, upd H' t (.tup [nV r.address, nV r.length]) c = some (.tup zs) → upd (upd H' t (.tup [nV r.address, nV r.length])) D (.lst (ts.map V.ref ++ [V.ref t])) c = some (.tup zs) := fun {c zs} hc => (upd_ne (ne_of hc hD2 (by intro z; cases z))).trans hc
      exact paired_snoc (paired_imp pr fun c r' hc => tD ((upd_ne (ne_of_none hc nt)).trans hc)) (tD upd_same)
    · rintro H1 ⟨e1, ts, hD, pr⟩
      rw [sqlen hs.rou, List.take_length] at pr
      obtain ⟨ks, k1, k2, k3⟩ := ks_of pr
      have kl : ks.length = s.routes.length := by
        have := congrArg List.length k2
        rwa [List.length_map, List.length_map] at this
      refine ⟨D, ks, rfl, by rw [k1]; exact SqL.of hD, fun p hp => SqT.of (k3 p hp), by omega, fun a L0 na sub cov => ?_⟩
      have kr : ∀ p ∈ ks, ∃ r ∈ s.routes, p.2 = keyL r := fun p hp => by
        have : p.2 ∈ ks.map (·.2) := List.mem_map_of_mem hp
        rw [k2] at this
        obtain ⟨r, hr', e⟩ := List.mem_map.mp this
        exact ⟨r, hr', e.symm⟩
      have k3' : ∀ p ∈ L0, upd H1 a (SetTO P w a L0) p.1 = some (.tup (p.2.map V.int)) := fun p hp => (upd_ne (ne_of_none (k3 p (sub p hp)) na)).trans (k3 p (sub p hp))
      refine ⟨a, L0, 2, 256, rfl, upd_same, fun p hp => SqT.of (k3' p hp), by decide, fun p hp => ?_, fun L' p perm nd l64 srt np => ?_⟩
      · obtain ⟨r, hr', e⟩ := kr p (sub p hp)
        have pr := isPrefix_iff.mp (wf.rt r hr').pre
        rw [e]
        refine ⟨rfl, fun m hm => ?_⟩
        unfold keyL at hm
        simp only [List.mem_cons, List.not_mem_nil, or_false] at hm
        rcases hm with rfl | rfl <;> omega
      · have e2 : Ex (Tl K) H (upd (upd H1 a (SetTO P w a L0)) p (.lst (L'.map fun q => V.ref q.1))) := (e1.trans (exN na)).trans (exN np)
        refine h _ p (L'.map (·.1)) e2 (nw_ex (e1.trans (exN na)) (.inl np)) (by rw [upd_same, List.map_map]; rfl) ?_
        have lr : ∀ q ∈ L', ∃ r ∈ s.routes, q.2 = keyL r := fun q hq => kr q (sub q (perm.mem_iff.mp hq))
        have eq : L'.map prP = s.prefixes := by
          refine prefixes_is s _ ?_ fun z => ⟨fun hz => ?_, fun hz => ?_⟩
          · rw [List.pairwise_map]
            have nd' : L'.Pairwise (fun q r => q.2 ≠ r.2) := List.pairwise_map.mp nd
            refine (srt.and nd').imp_of_mem fun {q r} hq hr' hlt => ?_
            obtain ⟨x, hx, ex⟩ := lr q hq
            obtain ⟨y, hy, ey⟩ := lr r hr'
            obtain ⟨h1, h2⟩ := hlt
            rw [ex, ey] at h1 h2
            unfold prP plt
            rw [ex, ey]
            have px := isPrefix_iff.mp (wf.rt x hx).pre
            have py := isPrefix_iff.mp (wf.rt y hy).pre
            have h1 : (x.address : Int) * 256 ^ 1 + ((x.length : Int) * 256 ^ 0 + 0) ≤ (y.address : Int) * 256 ^ 1 + ((y.length : Int) * 256 ^ 0 + 0) := h1
            have h2 : ¬ (x.address = y.address ∧ x.length = y.length) := fun z => h2 (by unfold keyL; rw [z.1, z.2])
            show (x.address < y.address ∨ (x.address = y.address ∧ x.length < y.length))
            omega
          · obtain ⟨q, hq, rfl⟩ := List.mem_map.mp hz
            obtain ⟨r, hr', e⟩ := lr q hq
            refine List.mem_map.mpr ⟨r, hr', ?_⟩
            unfold prP
            rw [e]
            rfl
          · obtain ⟨r, hr', rfl⟩ := List.mem_map.mp hz
            have hk : keyL r ∈ ks.map (·.2) := by rw [k2]; exact List.mem_map_of_mem hr'
            obtain ⟨p0, hp0, e0⟩ := List.mem_map.mp hk
            obtain ⟨q, hq, e⟩ := List.mem_map.mp (cov p0 hp0)
            refine List.mem_map.mpr ⟨q, perm.mem_iff.mpr hq, ?_⟩
            unfold prP
            rw [show q.2 = keyL r from e.trans e0]
            rfl
        rw [← eq]
        have all : ∀ l : List (Addr × List Int), (∀ q ∈ l, q ∈ L') → Paired (fun t (z : Nat × Nat) => upd (upd H1 a (SetTO P w a L0)) p (.lst (L'.map fun q => V.ref q.1)) t = some (.tup [nV z.1, nV z.2])) (l.map (·.1)) (l.map prP) := by
          intro l
          induction l with
          | nil => intro _; exact .nil
          | cons q l ih =>
            intro hl
            have hq := hl q (List.mem_cons_self ..)
            obtain ⟨r, hr', e⟩ := lr q hq
            refine .cons ?_ (ih fun q' h' => hl q' (List.mem_cons_of_mem _ h'))
            have z := k3' q (perm.mem_iff.mp hq)
            rw [upd_ne (ne_of_none z np), z]
            unfold prP
            rw [e]
            rfl
        exact all L' fun q hq => hq
end
end Nhp
/-! server.py: routing_table, routing_tables -/
namespace Nhp
open PySem PySem.Spec PyProof.Rows L2 LamX NdefX
def spTable (K : PySem.W.Frag) : Sp := fun vs H Q _ => ∃ (L : SA) (s : Su201.RouteServer) (m : Nat), vs = [.ref L.a, nV m] ∧ SrvAt K H L s ∧ Wf s ∧ m < s.members.length ∧ Tabs (Tl K) H ∧
  ∀ H' p, Ex (Tl K) H H' → Nw H p → TabAt (cR K) H' p (s.routingTable m) → Q (.ref p) H'
def spTables (K : PySem.W.Frag) : Sp := fun vs H Q _ => ∃ (L : SA) (s : Su201.RouteServer), vs = [.ref L.a] ∧ SrvAt K H L s ∧ Wf s ∧ Tabs (Tl K) H ∧
  ∀ H' p (ts : List Addr), Ex (Tl K) H H' → Nw H p → (∀ t ∈ ts, Nw H t) → H' p = some (.lst (ts.map V.ref)) → Paired (TabAt (cR K) H') ts ((List.range s.members.length).map s.routingTable) → Q (.ref p) H'
section
variable {P : Program} {w : World} {K : PySem.W.Frag} {mg : Str → Option Value} {base : Heap}
theorem ts_at {R : Addr → Nat × Nat → Prop} {ts : List Addr} {xs : List (Nat × Nat)} {i : Nat} {x : V} (h : Paired R ts xs) (hx : (ts.map V.ref)[i]? = some x) : ∃ b r, x = .ref b ∧ xs[i]? = some r ∧ R b r := by
  rw [List.getElem?_map] at hx
  cases e : ts[i]? with
  | none => rw [e] at hx; cases hx
  | some b =>
    rw [e] at hx
    obtain ⟨r, hr, hb⟩ := paired_got h e
    exact ⟨b, r, (Option.some.inj hx).symm, hr, hb⟩
theorem path1 {s : Su201.RouteServer} (wf : Wf s) : ∀ x ∈ s.routes, 1 ≤ x.asPath.length := fun x hx => (wf.rt x hx).len1
theorem insertPrefix_len (x : Nat × Nat) : ∀ l : List (Nat × Nat), (Su201.insertPrefix x l).length ≤ l.length + 1
  | [] => Nat.le_refl _
  | y :: l => by
    unfold Su201.insertPrefix
    split
    · exact Nat.le_refl _
    · split
      · exact Nat.le_succ _
      · have := insertPrefix_len x l
        simp only [List.length_cons]
        omega
theorem foldPrefix_len : ∀ (rs : List Su201.Route) (acc : List (Nat × Nat)), (rs.foldl (fun l x => Su201.insertPrefix (x.address, x.length) l) acc).length ≤ acc.length + rs.length
  | [], acc => Nat.le_refl _
  | x :: rs, acc => by
    rw [List.foldl_cons]
    have h1 := foldPrefix_len rs (Su201.insertPrefix (x.address, x.length) acc)
    have h2 := insertPrefix_len (x.address, x.length) acc
    simp only [List.length_cons]
    omega
theorem prefixes_len {s : Su201.RouteServer} (wf : Wf s) : s.prefixes.length ≤ 20 := by
  have h : s.prefixes.length ≤ 0 + s.routes.length := foldPrefix_len s.routes []
  have := wf.r20
  omega
theorem table_len {s : Su201.RouteServer} (wf : Wf s) (m : Nat) : (s.routingTable m).length ≤ 20 := Nat.le_trans (List.length_filterMap_le ..) (prefixes_len wf)
theorem foot1 {T : Addr} {H : Hp} {rs : List Addr} (h : H T = some (.lst (rs.map V.ref))) : FootOk [T] H := fun f hf => by
  rw [List.mem_singleton.mp hf]
  exact ⟨_, h, .inl ⟨rs, rfl⟩⟩
theorem sc_table : FnScope ["self", "member", "table", "address", "length", "ranked"] ["self", "member"] (defScope s_RouteServer_routing_table) := ⟨rfl, rfl, rfl, by decide +kernel, rfl, by decide +kernel, by decide +kernel⟩
theorem ok_table (T : Txt K mg) (TB : TabB base mg (He.cT K tp1).1 (He.cT K tp1).2) : Ok P w K mg base 7 (He.ma K (cS K) "routing_table") ["self", "member"] (spTable K) := by
  refine ok_of T.d_RouteServer_routing_table sc_table (fun vs H Q E h => ?_) (fun _ _ _ _ _ _ us hl => match us, hl with | [_, _], _ => rfl) (fun cdv A outer s H vs Q E hr h => ⟨_,
    pss_cons (ps_set (i := 2) sc_table.nd rfl (.inl rfl) (pe_lst pa_nil))
    (pss_cons (ps_for PassesOwn.never rfl (pi_list (pe_mt0 (pv 0) T.c_RouteServer T.m_RouteServer_prefixes_in_order (ok_prefixes T) (hr.mono (by decide)))) (pg_tup rfl (pgs_cons (pg_name (i := 3) sc_table.nd rfl (.inl rfl)) (pgs_cons (pg_name (i := 4) sc_table.nd rfl (.inl rfl)) pgs_nil)))
      (pss_cons (ps_set (i := 5) sc_table.nd rfl (.inl rfl) (pe_mt (pv 0) T.c_RouteServer T.m_RouteServer_ranked_routes (ok_ranked T TB) hr (pa_cons (pv 1) (pa_cons (pv 3) (pa_cons (pv 4) pa_nil)))))
      (pss_one (ps_if (pt_truth (pv 5) (by intro _; rfl)) (pss_one (ps_expr (pe_bm PySem.F.plainAttrs_list PySem.F.slot_list_append PySem.F.type_list_append mt_append (pv 2) (pa_cons (pe_ix ix_list (pv 5) pe_int (fun _ _ => rfl)) pa_nil)))) pss_nil))))
    (pss_one (ps_ret (pv 2)))), ?_⟩)
  · obtain ⟨x, m, n, rfl, _⟩ := h
    rfl
  · obtain ⟨L, s, m, rfl, hs, wf, hm, tb, h⟩ := h
    refine ⟨by show 0 ≤ sizeLine; decide, fun t nt => ?_⟩
    have e0 : Ex (Tl K) H (upd H t (.lst [])) := exN nt
    refine ⟨_, rfl, _, _, _, rfl, (hs.ex e0).o, sF_no_prefixes_in_order _ _, L, s, rfl, hs.ex e0, wf, fun H1 p ts e1 np hp pts => ?_⟩
    have ht1 : H1 t = some (.lst []) := e1.at_ upd_same
    have tp : p ≠ t := fun e => np.ne upd_same (nt_lst _) e.symm
    have base1 := e0.trans e1
    refine ⟨p, rfl, ⟨_, SqL.of hp⟩, ?_⟩
    refine for_list (K := K) (a := p) (xs := ts.map V.ref) (fun i σ H' => Keep (Tl K) [t] H1 H' ∧ (∃ u v z, σ = [some (.ref L.a), some (nV m), some (.ref t), u, v, z]) ∧ ∃ rs : List Addr, H' t = some (.lst (rs.map V.ref)) ∧ Paired (RouAt (cR K) H') rs ((s.prefixes.take i).filterMap fun y => s.bestRoute m y.1 y.2)) ⟨Keep.refl _ _ _, ⟨_, _, _, rfl⟩, [], ht1, .nil⟩ (fun i σ H' _ f => SqL.of (f.1.at_ hp (not1 tp))) ?_ ?_
    · rintro i x σ H' hx ⟨k, ⟨u, v, z, rfl⟩, rs, hT, pr⟩
      obtain ⟨b, y, rfl, hy, hb⟩ := ts_at pts hx
      have eH : Ex (Tl K) H H' := ((base1.keep (F := [t])).trans k).ex fun f hf => .inl (by rw [List.mem_singleton.mp hf]; exact nt)
      have hb' := k.at_ hb (not1 (ne_of hb ht1 (by intro z; cases z)))
      refine ⟨_, _, rfl, SqT.of hb', rfl, _, _, rfl, _, _, rfl, rfl, ?_⟩
      refine ⟨_, rfl, _, _, _, rfl, (hs.ex eH).o, sF_no_ranked_routes _ _, _, rfl, _, rfl, _, rfl, L, s, m, y.1, y.2, rfl, hs.ex eH, wf, hm, eH.2 tb, fun H5 p5 e5 n5 t5 => ?_⟩
      obtain ⟨qs, hq, pq⟩ := t5
      have hT5 := e5.at_ hT
      refine ⟨_, rfl, _, .inl ⟨_, SqL.of hq, rfl⟩, ?_⟩
      have len : ((s.prefixes.take i).filterMap fun y => s.bestRoute m y.1 y.2).length ≤ 20 := Nat.le_trans (List.length_filterMap_le ..) (Nat.le_trans (by rw [List.length_take]; omega) (prefixes_len wf))
      have tk : (s.prefixes.take (i + 1)).filterMap (fun y => s.bestRoute m y.1 y.2) = (s.prefixes.take i).filterMap (fun y => s.bestRoute m y.1 y.2) ++ (s.bestRoute m y.1 y.2).toList := by
        rw [take_more hy, List.filterMap_append, List.filterMap_cons]
        cases s.bestRoute m y.1 y.2 <;> rfl
      have br : s.bestRoute m y.1 y.2 = (s.eligibleRoutes m y.1 y.2).head? := rfl
      generalize heq : s.eligibleRoutes m y.1 y.2 = els at pq br
      cases pq with
      | nil =>
        refine iteF ⟨k.trans e5.keep, ⟨_, _, _, rfl⟩, rs, hT5, ?_⟩
        rw [tk, br]
        show Paired _ _ (_ ++ [])
        rw [List.append_nil]
        exact rous_ex pr e5
      | @cons c r qs' xs' hc pq' =>
        refine iteT ⟨_, rfl, .inl ⟨rfl, _, SqL.of hT5⟩, _, rfl, _, _, _, _, rfl, rfl, SqL.of hq, atI_nat (j := 0) rfl, _, _, _, rfl, rfl, hT5, line_lt (by rw [List.length_map, pr.length]; omega), (k.trans e5.keep).trans (Keep.lst hT5), ⟨_, _, _, rfl⟩, rs ++ [c], by rw [upd_same, List.map_append]; rfl, ?_⟩
        rw [tk, br]
        have inr : ∀ x ∈ (s.prefixes.take i).filterMap (fun y => s.bestRoute m y.1 y.2) ++ [r], 1 ≤ x.asPath.length := fun x hx => by
          refine path1 wf x ?_
          rcases List.mem_append.mp hx with hx | hx
          · obtain ⟨y', hy', e⟩ := List.mem_filterMap.mp hx
            exact (elig_mem (eligibleRoutes_mem (List.mem_of_mem_head? e))).1
          · rw [List.mem_singleton.mp hx]
            exact (elig_mem (eligibleRoutes_mem (by rw [heq]; exact List.mem_cons_self ..))).1
        exact rous_keep (paired_snoc (rous_ex pr e5) hc) inr (Keep.lst (T := Tl K) hT5) (foot1 hT5)
    · rintro σ H' ⟨k, ⟨u, v, z, rfl⟩, rs, hT, pr⟩
      have eH : Ex (Tl K) H H' := ((base1.keep (F := [t])).trans k).ex fun f hf => .inl (by rw [List.mem_singleton.mp hf]; exact nt)
      have hl : (ts.map V.ref).length = s.prefixes.length := by rw [List.length_map, pts.length]
      rw [hl, List.take_length] at pr
      exact ⟨_, rfl, h H' t eH (.inl nt) ⟨rs, hT, pr⟩⟩
theorem sc_tables : FnScope ["self", "member"] ["self"] (defScope s_RouteServer_routing_tables) := ⟨rfl, rfl, rfl, by decide +kernel, rfl, by decide +kernel, by decide +kernel⟩
theorem ok_tables (T : Txt K mg) (TB : TabB base mg (He.cT K tp1).1 (He.cT K tp1).2) : Ok P w K mg base 8 (He.ma K (cS K) "routing_tables") ["self"] (spTables K) := by
  refine ok_of T.d_RouteServer_routing_tables sc_tables (fun vs H Q E h => ?_) (fun _ _ _ _ _ _ us hl => match us, hl with | [_], _ => rfl) (fun cdv A outer s H vs Q E hr h => ⟨_,
    pss_one (ps_ret (pe_lc (own := [("member", 1)]) (g := gName 1) (tt := tYes) rfl sc_tables.nd (pi_range1 rfl T.n_range (pa_cons (pe_callB call_len_seq rfl T.n_len PySem.boot_len (pa_cons (pe_fld (pv 0) rfl) pa_nil)) pa_nil)) (blkOk_by (N := ["self", "member"]) (sc := defScope s_RouteServer_routing_tables) (by decide +kernel))
        (fun _ _ _ _ _ => pg_name (i := 1) sc_tables.nd rfl (Or.inl rfl)) (fun _ _ _ _ _ => pts_nil) (fun _ _ _ _ _ => pe_mt (pv 0) T.c_RouteServer T.m_RouteServer_routing_table (ok_table T TB) hr (pa_cons (pv 1) pa_nil)))), ?_⟩)
  · obtain ⟨x, m, rfl, _⟩ := h
    rfl
  · obtain ⟨L, s, rfl, hs, wf, tb, h⟩ := h
    have m6 := wf.m6
    have hl : (L.ms.map fun x => V.ref x.a).length = s.members.length := by rw [List.length_map, hs.mem.length]
    refine ⟨_, rfl, _, _, _, _, _, rfl, hs.o, T.c_RouteServer, T.a_RouteServer_members, sF_members _ _, _, _, rfl, .inl (SqL.of hs.ml), _, rfl, by omega, by omega, fun D nD => ?_⟩
    have hn : (((L.ms.map fun x => V.ref x.a).length : Int)).toNat = s.members.length := by rw [hl]; rfl
    rw [hn]
    refine lc_range (lo := 0) (n := s.members.length) (fun i H' => Ex (Tl K) H H' ∧ ∃ ts : List Addr, H' D = some (.lst (ts.map V.ref)) ∧ (∀ t ∈ ts, Nw H t ∧ t ≠ D) ∧ Paired (TabAt (cR K) H') ts ((List.range i).map s.routingTable)) ⟨exN nD, [], upd_same, fun _ h => (by cases h), .nil⟩ ?_ ?_
    · rintro i H' hi ⟨e, ts, hD, nw, pr⟩
      refine ⟨rfl, yes_of ⟨_, rfl, _, _, _, rfl, (hs.ex e).o, sF_no_routing_table _ _, _, rfl, L, s, i, ?_, hs.ex e, wf, hi, e.2 tb, fun H5 p e5 np t5 => ?_⟩⟩
      · show [V.ref L.a, V.int (0 + (i : Int))] = [V.ref L.a, nV i]
        rw [Int.zero_add]
      · have hD5 := e5.at_ hD
        have hlen : ts.length = i := by rw [pr.length, List.length_map, List.length_range]
        have pD : p ≠ D := fun q => np.ne hD (nt_lst _) q.symm
        refine ⟨_, hD5, line_lt (by rw [List.length_map]; omega), ex_put (e.trans e5) nD hD5, ts ++ [p], by rw [upd_same, List.map_append]; rfl, fun t ht => ?_, ?_⟩
        · rcases List.mem_append.mp ht with ht | ht
          · exact nw t ht
          · rw [List.mem_singleton.mp ht]
            exact ⟨nw_ex e np, pD⟩
        · rw [List.range_succ, List.map_append]
          refine paired_mem (paired_snoc (paired_imp pr fun t xs z => z.ex e5) t5) fun t xs ht hx z => ?_
          have tl : ∃ j, xs = s.routingTable j := by
            rcases List.mem_append.mp hx with hx | hx
            · obtain ⟨j, _, q⟩ := List.mem_map.mp hx
              exact ⟨j, q.symm⟩
            · exact ⟨i, List.mem_singleton.mp hx⟩
          obtain ⟨j, rfl⟩ := tl
          refine z.keepF (T := Tl K) (F := [D]) (fun x hx => path1 wf x (table_mem hx)) (not1 ?_) (Keep.lst hD5) (foot1 hD5)
          rcases List.mem_append.mp ht with ht | ht
          · exact (nw t ht).2
          · rw [List.mem_singleton.mp ht]
            exact pD
    · rintro H' ⟨e, ts, hD, nw, pr⟩
      exact h H' D ts e (.inl nD) (fun t ht => (nw t ht).1) hD pr
end
end Nhp
/-! changes.py: are_equal, changed_since -/
namespace Nhp
open PySem PySem.Spec PyProof.Rows L2 LamX NdefX
def dI (n : Nat) : PyData := .int (n : Int)
def dR (r : Su201.Route) : PyData := .tuple [dI r.address, dI r.length, dI r.announcer, .list (r.asPath.map dI)]
theorem eqv_dI (a b : Nat) : (dI a).eqv (dI b) = decide (a = b) := by
  unfold dI
  rw [PyData.eqv.eq_5, Bool.eq_iff_iff, beq_iff_eq, decide_eq_true_eq]
  omega
theorem eqv_all {α : Type} [DecidableEq α] {f : α → PyData} (h : ∀ a b, (f a).eqv (f b) = decide (a = b)) : ∀ l m : List α, PyData.eqvAll (l.map f) (m.map f) = decide (l = m)
  | [], [] => by simp [PyData.eqvAll]
  | [], _ :: _ => by simp [PyData.eqvAll]
  | _ :: _, [] => by simp [PyData.eqvAll]
  | a :: l, b :: m => by
    rw [List.map_cons, List.map_cons, PyData.eqvAll.eq_2, h, eqv_all h l m, Bool.eq_iff_iff]
    simp
theorem eqv_dR (a b : Su201.Route) : (dR a).eqv (dR b) = decide (a = b) := by
  unfold dR
  cases a
  cases b
  simp only [PyData.eqv, PyData.eqvAll, eqv_dI, eqv_all eqv_dI, Bool.and_true, Su201.Route.mk.injEq]
  rw [Bool.eq_iff_iff]
  simp only [Bool.and_eq_true, decide_eq_true_eq]
  exact ⟨fun h => ⟨h.2.2.1, h.1, h.2.1, h.2.2.2⟩, fun h => ⟨h.2.1, h.2.2.1, h.1, h.2.2.2⟩⟩
theorem lay_all {α : Type} {f : α → PyData} (h : ∀ a, (f a).canLay0 = true) : ∀ l : List α, PyData.canLayAll0 (l.map f) = true
  | [] => by simp [PyData.canLayAll0]
  | a :: l => by simp [PyData.canLayAll0, h a, lay_all h l]
theorem depth_all {α : Type} {f : α → PyData} {n : Nat} (h : ∀ a, (f a).depth ≤ n) : ∀ l : List α, PyData.depthAll (l.map f) ≤ n
  | [] => by simp [PyData.depthAll]
  | a :: l => by
    have h1 := h a
    have h2 := depth_all h l
    simp only [List.map_cons, PyData.depthAll]
    omega
theorem lay_dI (n : Nat) : (dI n).canLay0 = true := by unfold dI; simp [PyData.canLay0]
theorem lay_dR (r : Su201.Route) : (dR r).canLay0 = true := by
  unfold dR
  simp [PyData.canLay0, PyData.canLayAll0, lay_dI, lay_all lay_dI]
theorem depth_dI (n : Nat) : (dI n).depth ≤ 0 := by unfold dI; simp [PyData.depth]
theorem depth_dR (r : Su201.Route) : (dR r).depth ≤ 2 := by
  have h := depth_all depth_dI r.asPath
  unfold dR
  simp only [PyData.depth, PyData.depthAll, dI] at *
  omega
theorem shaped_table (xs : List Su201.Route) : SeqAt.shaped (.list (xs.map dR)) = true := by
  unfold SeqAt.shaped
  have h := depth_all depth_dR xs
  rw [Bool.and_eq_true, decide_eq_true_eq]
  refine ⟨by rw [PyData.canLay0.eq_5]; exact lay_all lay_dR xs, ?_⟩
  simp only [PyData.depth]
  omega
def PR (H H' : Hp) (t : Addr) (r : Su201.Route) : Prop := ∃ q, H' t = some (.tup [nV r.address, nV r.length, nV r.announcer, .ref q]) ∧ H q = some (.lst (nsV r.asPath))
theorem PR.ex {T : List (Addr × Str)} {H H' H2 : Hp} {t : Addr} {r : Su201.Route} (h : PR H H' t r) (e : Ex T H' H2) : PR H H2 t r := by
  obtain ⟨q, h1, h2⟩ := h
  exact ⟨q, e.at_ h1, h2⟩
theorem dp_ints {K : PySem.W.Frag} {H : Hp} : ∀ l : List Nat, DpAll K H (nsV l) (l.map dI)
  | [] => .nil
  | n :: l => .cons (.int _) (dp_ints l)
theorem dp_rows {K : PySem.W.Frag} {H H' : Hp} (s : Same H H') : ∀ {ts : List Addr} {xs : List Su201.Route}, Paired (PR H H') ts xs → DpAll K H' (ts.map V.ref) (xs.map dR)
  | _, _, .nil => .nil
  | _, _, .cons ⟨q, h1, h2⟩ t => .cons (.tup (SqT.of h1) (.cons (.int _) (.cons (.int _) (.cons (.int _) (.cons (.lst (SqL.of (s _ _ h2)) (dp_ints _)) .nil))))) (dp_rows s t)
def spEqual (K : PySem.W.Frag) : Sp := fun vs H Q _ => ∃ (a b : Addr) (xs ys : List Su201.Route), vs = [.ref a, .ref b] ∧ TabAt (cR K) H a xs ∧ TabAt (cR K) H b ys ∧ xs.length ≤ 20 ∧ ys.length ≤ 20 ∧ ∀ H', Same H H' → Q (.bl (decide (xs = ys))) H'
section
variable {P : Program} {w : World} {K : PySem.W.Frag} {mg : Str → Option Value} {base : Heap}
/-- the invariant of the rows' making -/
def RowI (D : Addr) (H0 H : Hp) (xs : List Su201.Route) (i : Nat) (H' : Hp) : Prop := Same H H' ∧ ∃ ts : List Addr, H' D = some (.lst (ts.map V.ref)) ∧ Paired (PR H0 H') ts (xs.take i)
theorem row_step {D t : Addr} {H0 H H' : Hp} {xs : List Su201.Route} {i : Nat} {r : Su201.Route} {q : Addr} {H2 : Hp} (f : RowI D H0 H xs i H') (nD : H D = none) (hl : xs.length ≤ 20) (hr : xs[i]? = some r) (s2 : Same H' H2) (ht : H2 t = some (.tup [nV r.address, nV r.length, nV r.announcer, .ref q])) (hq : H0 q = some (.lst (nsV r.asPath))) :
    ∃ acc, H2 D = some (.lst acc) ∧ acc.length < sizeLine ∧ RowI D H0 H xs (i + 1) (upd H2 D (.lst (acc ++ [V.ref t]))) := by
  obtain ⟨s, ts, hD, pr⟩ := f
  have hD2 := s2 _ _ hD
  have hlen : ts.length = min i xs.length := by rw [pr.length, List.length_take]
  have tD : ∀ {c : Addr} {zs us : List V}, H2 c = some (.tup zs) → upd H2 D (.lst us) c = some (.tup zs) := fun {c zs us} hc => (upd_ne (ne_of hc hD2 (by intro z; cases z))).trans hc
  refine ⟨_, hD2, line_lt (by rw [List.length_map]; omega), fun b o e => ?_, ts ++ [t], by rw [upd_same, List.map_append]; rfl, ?_⟩
  · rw [upd_ne (ne_of_none e nD)]
    exact s2 _ _ (s _ _ e)
  · rw [take_more hr]
    refine paired_snoc (paired_imp pr fun c r' hc => ?_) ⟨q, tD ht, hq⟩
    obtain ⟨q', h1, h2⟩ := hc
    exact ⟨q', tD (s2 _ _ h1), h2⟩
theorem sc_are_equal : FnScope ["table", "other", "route"] ["table", "other"] (defScope s_are_equal) := ⟨rfl, rfl, rfl, by decide +kernel, rfl, by decide +kernel, by decide +kernel⟩
theorem ok_are_equal (T : Txt K mg) : Ok P w K mg base 2 (He.ga K "are_equal") ["table", "other"] (spEqual K) := by
  refine ok_of T.d_are_equal sc_are_equal (fun vs H Q E h => ?_) (fun _ _ _ _ _ _ us hl => match us, hl with | [_, _], _ => rfl) (fun cdv A outer s H vs Q E hr h => ⟨_,
    pss_one (ps_ret (pe_cmpR (op_eqD hr.units) (pe_lc (own := [("route", 2)]) (g := gName 2) (tt := tYes) rfl sc_are_equal.nd (pi_list (pv 0)) (blkOk_by (N := ["table", "other", "route"]) (sc := defScope s_are_equal) (by decide +kernel))
        (fun _ _ _ _ _ => pg_name (i := 2) sc_are_equal.nd rfl (Or.inl rfl)) (fun _ _ _ _ _ => pts_nil) (fun _ _ _ _ _ => pe_mt0 (pv 2) T.c_Route T.m_Route_compared_by (ok_compared T) hr))
      (pe_lc (own := [("route", 2)]) (g := gName 2) (tt := tYes) rfl sc_are_equal.nd (pi_list (pv 1)) (blkOk_by (N := ["table", "other", "route"]) (sc := defScope s_are_equal) (by decide +kernel))
        (fun _ _ _ _ _ => pg_name (i := 2) sc_are_equal.nd rfl (Or.inl rfl)) (fun _ _ _ _ _ => pts_nil) (fun _ _ _ _ _ => pe_mt0 (pv 2) T.c_Route T.m_Route_compared_by (ok_compared T) hr)) (nomark _))), ?_⟩)
  · obtain ⟨x, m, n, l, rfl, _⟩ := h
    rfl
  · obtain ⟨a, b, xs, ys, rfl, ⟨ra, ha, pa⟩, ⟨rb, hb, pb⟩, lx, ly, h⟩ := h
    refine ⟨_, rfl, _, rfl, ⟨_, SqL.of ha⟩, fun D nD => ?_⟩
    refine lc_list (K := K) (a := a) (xs := ra.map V.ref) (RowI D H H xs) ⟨same_new nD, [], upd_same, .nil⟩ (fun i H' _ f => SqL.of (f.1 _ _ ha)) ?_ ?_
    · intro i x H' hx f
      obtain ⟨c, r, rfl, hr', dx, q, ho, hq⟩ := rs_at pa hx
      exact ⟨rfl, yes_of ⟨_, rfl, _, _, _, rfl, f.1 _ _ ho, rF_no_compared_by _ _, c, dx, r, q, rfl, f.1 _ _ ho, fun t H2 s2 nt ht => row_step f nD lx hr' s2 ht hq⟩⟩
    · rintro H1 ⟨s1, t1, hD1, p1⟩
      rw [sqlen pa, List.take_length] at p1
      refine ⟨_, rfl, _, rfl, ⟨_, SqL.of (s1 _ _ hb)⟩, fun D2 nD2 => ?_⟩
      refine lc_list (K := K) (a := b) (xs := rb.map V.ref) (RowI D2 H H1 ys) ⟨same_new nD2, [], upd_same, .nil⟩ (fun i H' _ f => SqL.of (f.1 _ _ (s1 _ _ hb))) ?_ ?_
      · intro i x H' hx f
        obtain ⟨c, r, rfl, hr', dx, q, ho, hq⟩ := rs_at pb hx
        exact ⟨rfl, yes_of ⟨_, rfl, _, _, _, rfl, f.1 _ _ (s1 _ _ ho), rF_no_compared_by _ _, c, dx, r, q, rfl, f.1 _ _ (s1 _ _ ho), fun t H2 s2 nt ht => row_step f nD2 ly hr' s2 ht hq⟩⟩
      · rintro H2 ⟨s2, t2, hD2, p2⟩
        rw [sqlen pb, List.take_length] at p2
        have s12 : Same H H2 := s1.trans s2
        have p1' : Paired (PR H H2) t1 xs := paired_imp p1 fun c r hc => hc.ex (exS (T := Tl K) s2)
        refine ⟨_, _, .lst (SqL.of (s2 _ _ hD1)) (dp_rows s12 p1'), .lst (SqL.of hD2) (dp_rows s12 p2), shaped_table _, shaped_table _, ?_⟩
        rw [PyData.eqv.eq_7, eqv_all eqv_dR]
        exact h H2 s12
end
end Nhp
/-! changes.py: changed_since -/
namespace Nhp
open PySem PySem.Spec PyProof.Rows L2 LamX NdefX
def spChanged (K : PySem.W.Frag) : Sp := fun vs H Q _ => ∃ (L : SA) (s0 s : Su201.RouteServer) (tb : Addr) (ts : List Addr), vs = [.ref L.a, .ref tb] ∧ SrvAt K H L s ∧ Wf s0 ∧ Wf s ∧ Tabs (Tl K) H ∧ s.members.length = s0.members.length ∧ H tb = some (.lst (ts.map V.ref)) ∧ Paired (TabAt (cR K) H) ts ((List.range s0.members.length).map s0.routingTable) ∧
  ∀ H' p, Ex (Tl K) H H' → Nw H p → H' p = some (.lst (resV (Su201.okList (s0.changedMembers s)))) → Q (.ref p) H'
section
variable {P : Program} {w : World} {K : PySem.W.Frag} {mg : Str → Option Value} {base : Heap}
theorem range_at {n m : Nat} (h : m < n) : (List.range n)[m]? = some m := by rw [List.getElem?_range h]
theorem tab_at {R : Addr → List Su201.Route → Prop} {ts : List Addr} {n i : Nat} {f : Nat → List Su201.Route} (h : Paired R ts ((List.range n).map f)) (hi : i < n) : ∃ t, ts[i]? = some t ∧ R t (f i) :=
  paired_get h (by rw [List.getElem?_map, range_at hi]; rfl)
theorem resV_okList (l : List Nat) : resV (Su201.okList l) = [V.int (l.length : Int)] ++ nsV l := by
  rw [resV_is]
  rfl
theorem sc_changed : FnScope ["server", "tables_before", "tables_now", "changed", "member", "table"] ["server", "tables_before"] (defScope s_changed_since) := ⟨rfl, rfl, rfl, by decide +kernel, rfl, by decide +kernel, by decide +kernel⟩
theorem ok_changed (T : Txt K mg) (TB : TabB base mg (He.cT K tp1).1 (He.cT K tp1).2) : Ok P w K mg base 9 (He.ga K "changed_since") ["server", "tables_before"] (spChanged K) := by
  refine ok_of T.d_changed_since sc_changed (fun vs H Q E h => ?_) (fun _ _ _ _ _ _ us hl => match us, hl with | [_, _], _ => rfl) (fun cdv A outer s H vs Q E hr h => ⟨_,
    pss_cons (ps_set (i := 2) sc_changed.nd rfl (.inl rfl) (pe_mt0 (pv 0) T.c_RouteServer T.m_RouteServer_routing_tables (ok_tables T TB) hr))
    (pss_cons (ps_setLc (i := 3) (own := [("member", 4), ("table", 5)]) (g := gTup K 2 (gCons (gName 4) (gCons (gName 5) gNil))) (tt := _) rfl sc_changed.nd rfl rfl (sw_true rfl rfl rfl (by decide +kernel)) (pi_enum rfl T.n_enumerate (pa_cons (pv 2) pa_nil)) (blkOk_by (N := ["server", "tables_before", "tables_now", "changed", "member", "table"]) (sc := defScope s_changed_since) (by decide +kernel))
        (fun _ _ _ _ _ => pg_tup rfl (pgs_cons (pg_name (i := 4) sc_changed.nd rfl (.inl rfl)) (pgs_cons (pg_name (i := 5) sc_changed.nd rfl (.inl rfl)) pgs_nil)))
        (fun _ _ _ _ _ => pts_one (pt_not (pt_val (pe_cl (ok_are_equal T) (hr.mono (by decide)) rfl T.g_are_equal (pa_cons (pv 5) (pa_cons (pe_ix (r := rIxL K) ix_list (pv 1) (pv 4) (fun _ _ => rfl)) pa_nil)))))) (fun _ _ _ _ _ => pv 4))
    (pss_one (ps_ret (pe_op op_cat (pe_lst (pa_cons (pe_callB call_len_seq rfl T.n_len PySem.boot_len (pa_cons (pv 3) pa_nil)) pa_nil)) (pv 3))))), ?_⟩)
  · obtain ⟨x, m, n, a, b, rfl, _⟩ := h
    rfl
  · obtain ⟨L, s0, s, tb, ts, rfl, hs, wf0, wf, tabs, hn, htb, pts, h⟩ := h
    have m6 := wf0.m6
    refine ⟨_, rfl, _, _, _, rfl, hs.o, sF_no_routing_tables _ _, L, s, rfl, hs, wf, tabs, fun H1 p ns e1 np nns hp pns => ?_⟩
    rw [hn] at pns
    have htb1 := e1.at_ htb
    have pts1 := paired_imp pts fun t xs z => z.ex e1
    have hnl : ns.length = s0.members.length := by rw [pns.length, List.length_map, List.length_range]
    refine ⟨_, rfl, _, _, rfl, SqL.of hp, fun D nD => ?_⟩
    refine lc_it (walk_enum (K := K) (a := p) (xs := ns.map V.ref)) (fun i H' => Ex (Tl K) H1 H' ∧ H' D = some (.lst (nsV ((List.range i).filter fun m => s0.routingTable m != s.routingTable m)))) ⟨exN nD, upd_same⟩ (fun i H' _ f => SqL.of (f.1.at_ hp)) ?_ ?_
    · rintro i x H2 H3 hi ⟨e2, hD⟩ ⟨t, x1, y1, rfl, nt, rfl, q1, q2⟩
      cases q1
      have hi' : i < s0.members.length := by rw [List.length_map, hnl] at hi; exact hi
      have q2 : (ns.map V.ref)[i]? = some y1 := q2
      obtain ⟨c, hc, tc⟩ := tab_at pns hi'
      obtain ⟨b, hb, tb'⟩ := tab_at pts1 hi'
      rw [List.getElem?_map, hc] at q2
      cases q2
      have e3 : Ex (Tl K) H1 (upd H2 t (.tup [V.int (i : Nat), V.ref c])) := e2.trans (exN nt)
      have hD3 : upd H2 t (.tup [V.int (i : Nat), V.ref c]) D = _ := (upd_ne (ne_of_none hD nt)).trans hD
      refine ⟨_, _, rfl, SqT.of upd_same, rfl, _, _, rfl, _, _, rfl, rfl, rfl, ?_⟩
      refine ⟨_, rfl, _, rfl, _, rfl, tb, ts.map V.ref, _, V.ref b, rfl, rfl, SqL.of (e3.at_ htb1), atI_nat (j := i) (by rw [List.getElem?_map, hb]; rfl), ?_⟩
      refine ⟨c, b, _, _, rfl, tc.ex e3, tb'.ex e3, table_len wf i, table_len wf0 i, fun H4 s4 => ⟨_, rfl, ?_⟩⟩
      have hD4 := s4 _ _ hD3
      have e4 : Ex (Tl K) H1 H4 := e3.trans (exS s4)
      have fl : (List.range (i + 1)).filter (fun m => s0.routingTable m != s.routingTable m) = if (s0.routingTable i != s.routingTable i) = true then (List.range i).filter (fun m => s0.routingTable m != s.routingTable m) ++ [i] else (List.range i).filter (fun m => s0.routingTable m != s.routingTable m) := by
        rw [List.range_succ, List.filter_append, List.filter_cons]
        by_cases c : (s0.routingTable i != s.routingTable i) = true
        · rw [if_pos c, if_pos c]; rfl
        · rw [if_neg c, if_neg c, List.filter_nil, List.append_nil]
      have bl : (!decide (s.routingTable i = s0.routingTable i)) = (s0.routingTable i != s.routingTable i) := by
        rw [Bool.eq_iff_iff, bne_iff_ne, Bool.not_eq_true', decide_eq_false_iff_not]
        exact ⟨fun a b => a b.symm, fun a b => a b.symm⟩
      have fle : ((List.range i).filter fun m => s0.routingTable m != s.routingTable m).length ≤ i := Nat.le_trans (List.length_filter_le ..) (by rw [List.length_range]; exact Nat.le_refl _)
      refine if_of (b := !decide (s.routingTable i = s0.routingTable i)) (fun c => ⟨_, rfl, _, hD4, line_lt (by unfold nsV; rw [List.length_map]; omega), ex_put e4 nD hD4, ?_⟩) (fun c => ⟨e4, ?_⟩)
      · rw [upd_same, fl, if_pos (by rw [← bl]; exact c)]
        unfold nsV
        rw [List.map_append]
        rfl
      · rw [fl, if_neg (by rw [← bl, c]; exact Bool.false_ne_true)]
        exact hD4
    · rintro H2 ⟨e2, hD⟩
      rw [List.length_map, hnl] at hD
      have fle : (s0.changedMembers s).length ≤ 6 := Nat.le_trans (List.length_filter_le ..) (by rw [List.length_range]; exact m6)
      have hD : H2 D = some (.lst (nsV (s0.changedMembers s))) := hD
      have nl : (nsV (s0.changedMembers s)).length = (s0.changedMembers s).length := List.length_map _
      refine ⟨_, rfl, _, _, rfl, .inl (SqL.of hD), by show 1 ≤ sizeLine; decide, fun l nl1 => ?_⟩
      have hD3 : upd H2 l (.lst [V.int ((nsV (s0.changedMembers s)).length : Int)]) D = _ := (upd_ne (ne_of_none hD nl1)).trans hD
      refine ⟨_, rfl, l, D, _, _, rfl, rfl, upd_same, hD3, by rw [nl]; exact Nat.le_of_lt (line_lt (by show 1 + _ ≤ 100; omega)), fun r nr => ?_⟩
      refine h _ r ((e1.trans e2).trans ((exN nl1).trans (exN nr))) (nw_ex ((e1.trans e2).trans (exN nl1)) (.inl nr)) ?_
      rw [upd_same, resV_okList, nl]
end
end Nhp
/-! server.py: the makers; changes.py: policy_refusal -/
namespace Nhp
open PySem PySem.Spec PyProof.Rows L2 LamX NdefX
def spMemberInit (K : PySem.W.Frag) : Sp := fun vs H Q _ => ∃ (a dx : Addr) (n : Nat), vs = [.ref a, nV n] ∧ H a = some (.ins (cM K) dx []) ∧ ∀ H' d1 d2 d3, Keep (Tl K) [a] H H' → Nw H d1 → Nw H d2 → Nw H d3 → d1 ≠ d2 → d1 ≠ d3 → d2 ≠ d3 → H' a = some (.ins (cM K) dx (mF ⟨a, dx, d1, d2, d3⟩ n)) → H' d1 = some (.dK []) → H' d2 = some (.dK []) → H' d3 = some (.dK []) → Q .non H'
def spRouteInit (K : PySem.W.Frag) : Sp := fun vs H Q _ => ∃ (a dx : Addr) (r : Su201.Route) (q : Addr), vs = [.ref a, nV r.announcer, nV r.address, nV r.length, .ref q] ∧ H a = some (.ins (cR K) dx []) ∧ ∀ H', Keep (Tl K) [a] H H' → H' a = some (.ins (cR K) dx (rF r q)) → Q .non H'
def spServerInit (K : PySem.W.Frag) : Sp := fun vs H Q _ => ∃ (a dx : Addr), vs = [.ref a] ∧ H a = some (.ins (cS K) dx []) ∧ ∀ H' ml rl, Keep (Tl K) [a] H H' → Nw H ml → Nw H rl → ml ≠ rl → H' a = some (.ins (cS K) dx (sF ml rl)) → H' ml = some (.lst []) → H' rl = some (.lst []) → Q .non H'
def spOwn (K : PySem.W.Frag) : Sp := fun vs H Q _ => ∃ (L : SA) (s : Su201.RouteServer), vs = [.ref L.a] ∧ SrvAt K H L s ∧ ∀ H' a dx rl, Ex (Tl K) H H' → Nw H a → Nw H rl → SrvAt K H' ⟨a, dx, L.ml, rl, L.ms, L.rs⟩ s → Q (.ref a) H'
def refV (s : Su201.RouteServer) (m p d g : Nat) : V := if s.hasMember m = false ∨ s.hasMember p = false then .int (-2) else if m = p ∨ g < d then .int (-22) else .non
def spRefusal (K : PySem.W.Frag) : Sp := fun vs H Q _ => ∃ (L : SA) (s : Su201.RouteServer) (m p d g : Nat), vs = [.ref L.a, nV m, nV p, nV d, nV g] ∧ SrvAt K H L s ∧ Q (refV s m p d g) H
section
variable {P : Program} {w : World} {K : PySem.W.Frag} {mg : Str → Option Value} {base : Heap}
theorem fld_step {T : List (Addr × Str)} {H H1 : Hp} {a C dx : Addr} {fs gs : List (Str × V)} (k : Keep T [a] H H1) (h1 : H1 a = some (.ins C dx fs)) :
    Keep T [a] H (upd H1 a (.ins C dx gs)) ∧ upd H1 a (.ins C dx gs) a = some (.ins C dx gs) ∧ ∀ b o, H1 b = some o → b ≠ a → upd H1 a (.ins C dx gs) b = some o :=
  ⟨k.trans (Keep.upd h1 (nt_ins _ _ _) (nt_ins _ _ _) fun _ e => by cases e), upd_same, fun b o hb ne => (upd_ne ne).trans hb⟩
theorem new_step {T : List (Addr × Str)} {H H1 : Hp} {a d : Addr} {o : HO} (k : Keep T [a] H H1) (n : H1 d = none) :
    Keep T [a] H (upd H1 d o) ∧ Nw H d ∧ (∀ b u, H1 b = some u → upd H1 d o b = some u) ∧ upd H1 d o d = some o :=
  ⟨k.trans (exN n).keep, nw_keep k (.inl n), fun b u hb => same_new n b u hb, upd_same⟩
theorem sc_member_init : FnScope ["self", "asn"] ["self", "asn"] (defScope s_Member_init) := ⟨rfl, rfl, rfl, by decide +kernel, rfl, by decide +kernel, by decide +kernel⟩
theorem ok_member_init (T : Txt K mg) : Ok P w K mg base 1 (He.ma K (cM K) "__init__") ["self", "asn"] (spMemberInit K) := by
  refine ok_of T.d_Member_init sc_member_init (fun vs H Q E h => ?_) (fun _ _ _ _ _ _ us hl => match us, hl with | [_, _], _ => rfl) (fun cdv A outer s H vs Q E hr h => ⟨_,
    pss_cons (ps_fld (pv 0) (pv 1) rfl) (pss_cons (ps_fld (pv 0) pe_dnewK rfl) (pss_cons (ps_fld (pv 0) pe_dnewK rfl) (pss_one (ps_fld (pv 0) pe_dnewK rfl)))), ?_⟩)
  · obtain ⟨x, m, n, rfl, _⟩ := h
    rfl
  · obtain ⟨a, dx, n, rfl, ha, h⟩ := h
    obtain ⟨k1, a1, _⟩ := fld_step (gs := putF "asn" (nV n) []) (Keep.refl (Tl K) [a] H) ha
    refine ⟨_, rfl, _, rfl, a, _, dx, _, rfl, ha, T.c_Member, T.a_Member_asn, by show 0 < 1000; decide, fun d1 n1 => ?_⟩
    obtain ⟨k2, w1, p1, s1⟩ := new_step (o := .dK []) k1 n1
    have a2 := p1 _ _ a1
    have ne1 : d1 ≠ a := (ne_of_none a1 n1).symm
    obtain ⟨k3, a3, p2⟩ := fld_step (gs := putF "export_denials" (.ref d1) (putF "asn" (nV n) [])) k2 a2
    have b3 := p2 _ _ s1 ne1
    refine ⟨_, rfl, a, _, dx, _, rfl, a2, T.c_Member, T.a_Member_export_denials, by show 1 < 1000; decide, fun d2 n2 => ?_⟩
    obtain ⟨k4, w2, p3, s2⟩ := new_step (o := .dK []) k3 n2
    have a4 := p3 _ _ a3
    have b4 := p3 _ _ b3
    have ne2 : d2 ≠ a := (ne_of_none a3 n2).symm
    have ne12 : d1 ≠ d2 := ne_of_none b3 n2
    obtain ⟨k5, a5, p4⟩ := fld_step (gs := putF "import_denials" (.ref d2) (putF "export_denials" (.ref d1) (putF "asn" (nV n) []))) k4 a4
    have b5 := p4 _ _ b4 ne1
    have c5 := p4 _ _ s2 ne2
    refine ⟨_, rfl, a, _, dx, _, rfl, a4, T.c_Member, T.a_Member_import_denials, by show 2 < 1000; decide, fun d3 n3 => ?_⟩
    obtain ⟨k6, w3, p5, s3⟩ := new_step (o := .dK []) k5 n3
    have a6 := p5 _ _ a5
    have ne3 : d3 ≠ a := (ne_of_none a5 n3).symm
    obtain ⟨k7, a7, p6⟩ := fld_step (gs := putF "preferences" (.ref d3) (putF "import_denials" (.ref d2) (putF "export_denials" (.ref d1) (putF "asn" (nV n) [])))) k6 a6
    refine ⟨_, rfl, a, _, dx, _, rfl, a6, T.c_Member, T.a_Member_preferences, by show 3 < 1000; decide, ?_⟩
    have e : mF ⟨a, dx, d1, d2, d3⟩ n = _ := (mF_new ⟨a, dx, d1, d2, d3⟩ n).symm
    exact h _ d1 d2 d3 k7 w1 w2 w3 ne12 (ne_of_none b5 n3) (ne_of_none c5 n3) (by rw [e]; exact a7) (p6 _ _ (p5 _ _ b5) ne1) (p6 _ _ (p5 _ _ c5) ne2) (p6 _ _ s3 ne3)
theorem sc_route_init : FnScope ["self", "announcer", "address", "length", "as_path"] ["self", "announcer", "address", "length", "as_path"] (defScope s_Route_init) := ⟨rfl, rfl, rfl, by decide +kernel, rfl, by decide +kernel, by decide +kernel⟩
theorem ok_route_init (T : Txt K mg) : Ok P w K mg base 1 (He.ma K (cR K) "__init__") ["self", "announcer", "address", "length", "as_path"] (spRouteInit K) := by
  refine ok_of T.d_Route_init sc_route_init (fun vs H Q E h => ?_) (fun _ _ _ _ _ _ us hl => match us, hl with | [_, _, _, _, _], _ => rfl) (fun cdv A outer s H vs Q E hr h => ⟨_,
    pss_cons (ps_fld (pv 0) (pv 1) rfl) (pss_cons (ps_fld (pv 0) (pv 2) rfl) (pss_cons (ps_fld (pv 0) (pv 3) rfl) (pss_one (ps_fld (pv 0) (pv 4) rfl)))), ?_⟩)
  · obtain ⟨x, m, n, q, rfl, _⟩ := h
    rfl
  · obtain ⟨a, dx, r, q, rfl, ha, h⟩ := h
    obtain ⟨k1, a1, _⟩ := fld_step (gs := putF "announcer" (nV r.announcer) []) (Keep.refl (Tl K) [a] H) ha
    obtain ⟨k2, a2, _⟩ := fld_step (gs := putF "address" (nV r.address) (putF "announcer" (nV r.announcer) [])) k1 a1
    obtain ⟨k3, a3, _⟩ := fld_step (gs := putF "length" (nV r.length) (putF "address" (nV r.address) (putF "announcer" (nV r.announcer) []))) k2 a2
    obtain ⟨k4, a4, _⟩ := fld_step (gs := putF "as_path" (.ref q) (putF "length" (nV r.length) (putF "address" (nV r.address) (putF "announcer" (nV r.announcer) [])))) k3 a3
    refine ⟨_, rfl, _, rfl, a, _, dx, _, rfl, ha, T.c_Route, T.a_Route_announcer, by show 0 < 1000; decide, _, rfl, _, rfl, a, _, dx, _, rfl, a1, T.c_Route, T.a_Route_address, by show 1 < 1000; decide, _, rfl, _, rfl, a, _, dx, _, rfl, a2, T.c_Route, T.a_Route_length, by show 2 < 1000; decide, _, rfl, _, rfl, a, _, dx, _, rfl, a3, T.c_Route, T.a_Route_as_path, by show 3 < 1000; decide, ?_⟩
    exact h _ k4 (by rw [← rF_new r q]; exact a4)
theorem sc_server_init : FnScope ["self"] ["self"] (defScope s_RouteServer_init) := ⟨rfl, rfl, rfl, by decide +kernel, rfl, by decide +kernel, by decide +kernel⟩
theorem ok_server_init (T : Txt K mg) : Ok P w K mg base 1 (He.ma K (cS K) "__init__") ["self"] (spServerInit K) := by
  refine ok_of T.d_RouteServer_init sc_server_init (fun vs H Q E h => ?_) (fun _ _ _ _ _ _ us hl => match us, hl with | [_], _ => rfl) (fun cdv A outer s H vs Q E hr h => ⟨_,
    pss_cons (ps_fld (pv 0) (pe_lst pa_nil) rfl) (pss_one (ps_fld (pv 0) (pe_lst pa_nil) rfl)), ?_⟩)
  · obtain ⟨x, m, rfl, _⟩ := h
    rfl
  · obtain ⟨a, dx, rfl, ha, h⟩ := h
    refine ⟨by show 0 ≤ sizeLine; decide, fun d1 n1 => ?_⟩
    obtain ⟨k2, w1, p1, s1⟩ := new_step (o := .lst []) (Keep.refl (Tl K) [a] H) n1
    have a2 := p1 _ _ ha
    have ne1 : d1 ≠ a := (ne_of_none ha n1).symm
    obtain ⟨k3, a3, p2⟩ := fld_step (gs := putF "members" (.ref d1) []) k2 a2
    have b3 := p2 _ _ s1 ne1
    refine ⟨_, rfl, a, _, dx, _, rfl, a2, T.c_RouteServer, T.a_RouteServer_members, by show 0 < 1000; decide, by show 0 ≤ sizeLine; decide, fun d2 n2 => ?_⟩
    obtain ⟨k4, w2, p3, s2⟩ := new_step (o := .lst []) k3 n2
    have a4 := p3 _ _ a3
    have b4 := p3 _ _ b3
    have ne2 : d2 ≠ a := (ne_of_none a3 n2).symm
    obtain ⟨k5, a5, p4⟩ := fld_step (gs := putF "routes" (.ref d2) (putF "members" (.ref d1) [])) k4 a4
    refine ⟨_, rfl, a, _, dx, _, rfl, a4, T.c_RouteServer, T.a_RouteServer_routes, by show 1 < 1000; decide, ?_⟩
    exact h _ d1 d2 k5 w1 w2 (ne_of_none b3 n2) (by rw [← sF_new]; exact a5) (p4 _ _ b4 ne1) (p4 _ _ s2 ne2)
/-- an instance just made -/
theorem mk_ex {T : List (Addr × Str)} {H : Hp} {x dx : Addr} {o u : HO} (nx : H x = none) (nd : H dx = none) (ne : dx ≠ x) : Ex T H (upd (upd H dx u) x o) ∧ upd (upd H dx u) x o x = some o :=
  ⟨(exN nd).trans (exN ((upd_ne ne.symm).trans nx)), upd_same⟩
theorem mk_done {T : List (Addr × Str)} {H H1 H2 : Hp} {x : Addr} (e : Ex T H H1) (nx : H x = none) (k : Keep T [x] H1 H2) : Ex T H H2 := (e.keep.trans k).ex fun f hf => by rw [List.mem_singleton.mp hf]; exact .inl nx
theorem sc_own : FnScope ["self", "server"] ["self"] (defScope s_RouteServer_with_own_routes) := ⟨rfl, rfl, rfl, by decide +kernel, rfl, by decide +kernel, by decide +kernel⟩
theorem ok_own (T : Txt K mg) : Ok P w K mg base 3 (He.ma K (cS K) "with_own_routes") ["self"] (spOwn K) := by
  refine ok_of T.d_RouteServer_with_own_routes sc_own (fun vs H Q E h => ?_) (fun _ _ _ _ _ _ us hl => match us, hl with | [_], _ => rfl) (fun cdv A outer s H vs Q E hr h => ⟨_,
    pss_cons (ps_set (i := 1) sc_own.nd rfl (.inl rfl) (pe_mk0 T.k_RouteServer (ok_server_init T) hr rfl T.g_RouteServer))
    (pss_cons (ps_fld (pv 1) (pe_fld (pv 0) rfl) rfl) (pss_cons (ps_fld (pv 1) (pe_callTy call_list_of rfl T.n_list (by decide +kernel) (pa_cons (pe_fld (pv 0) rfl) pa_nil)) rfl) (pss_one (ps_ret (pv 1))))), ?_⟩)
  · obtain ⟨x, m, rfl, _⟩ := h
    rfl
  · obtain ⟨L, s, rfl, hs, h⟩ := h
    intro a dx nx nd ne
    obtain ⟨e1, a1⟩ := mk_ex (T := Tl K) (o := .ins (cS K) dx []) (u := .own a) nx nd ne
    refine ⟨a, dx, rfl, a1, fun H2 ml rl k2 wm wr mr a2 hml hrl => ⟨rfl, ?_⟩⟩
    have e2 := mk_done e1 nx k2
    have La : L.a ≠ a := ne_of_none hs.o nx
    obtain ⟨k3, a3, p3⟩ := fld_step (gs := sF L.ml rl) (Keep.refl (Tl K) [a] H2) a2
    have e3 := mk_done e2 nx k3
    refine ⟨_, rfl, _, _, _, _, _, rfl, (hs.ex e2).o, T.c_RouteServer, T.a_RouteServer_members, sF_members _ _, _, rfl, a, _, dx, _, rfl, a2, T.c_RouteServer, T.a_RouteServer_members, by show 2 < 1000; decide, ?_⟩
    rw [sF_members_put]
    refine ⟨_, rfl, _, _, _, _, _, rfl, (hs.ex e3).o, T.c_RouteServer, T.a_RouteServer_routes, sF_routes _ _, _, _, rfl, .inl (SqL.of (hs.ex e3).rl), fun l nl => ?_⟩
    obtain ⟨k4, w4, p4, s4⟩ := new_step (o := .lst (L.rs.map V.ref)) k3 nl
    have a4 := p4 _ _ a3
    obtain ⟨k5, a5, p5⟩ := fld_step (gs := sF L.ml l) k4 a4
    have e5 := mk_done e2 nx k5
    refine ⟨_, rfl, a, _, dx, _, rfl, a4, T.c_RouteServer, T.a_RouteServer_routes, by show 2 < 1000; decide, ?_⟩
    rw [sF_routes_put]
    have hs5 := hs.ex e5
    refine ⟨_, rfl, h _ a dx l e5 (.inl nx) (nw_ex e3 (.inl nl)) ⟨a5, hs5.ml, p5 _ _ s4 (ne_of_none a3 nl).symm, hs5.mem, hs5.rou, ?_, hs.nd⟩⟩
    exact ne_of_none (hs.ex e3).ml nl
theorem sc_refusal : FnScope ["server", "member", "peer", "value", "greatest"] ["server", "member", "peer", "value", "greatest"] (defScope s_policy_refusal) := ⟨rfl, rfl, rfl, by decide +kernel, rfl, by decide +kernel, by decide +kernel⟩
theorem ok_refusal (T : Txt K mg) : Ok P w K mg base 2 (He.ga K "policy_refusal") ["server", "member", "peer", "value", "greatest"] (spRefusal K) := by
  refine ok_of T.d_policy_refusal sc_refusal (fun vs H Q E h => ?_) (fun _ _ _ _ _ _ us hl => match us, hl with | [_, _, _, _, _], _ => rfl) (fun cdv A outer s H vs Q E hr h => ⟨_,
    pss_cons (ps_if (PW.pt (pw_or (pt_not (pt_val (pe_mt (pv 0) T.c_RouteServer T.m_RouteServer_has_member (ok_has_member T) hr (pa_cons (pv 1) pa_nil)))) (pw_or1 (pt_not (pt_val (pe_mt (pv 0) T.c_RouteServer T.m_RouteServer_has_member (ok_has_member T) hr (pa_cons (pv 2) pa_nil))))))) (pss_one (ps_ret (pe_gi rfl T.i_NO_MEMBER))) pss_nil)
    (pss_cons (ps_if (PW.pt (pw_or (pt_cmpR op_eq (pv 1) (pv 2) (nomark _)) (pw_or1 (pt_cmpR op_gt (pv 3) (pv 4) (nomark _))))) (pss_one (ps_ret (pe_gi rfl T.i_INVALID))) pss_nil)
    (pss_one (ps_ret pe_non))), ?_⟩)
  · obtain ⟨x, m, n, q, r, t, rfl, _⟩ := h
    rfl
  · obtain ⟨L, s, m, p, d, g, rfl, hs, h⟩ := h
    unfold refV at h
    have last : ¬ (s.hasMember m = false ∨ s.hasMember p = false) → (if m = p ∨ g < d then Q (.int (-22)) H else Q .non H) := fun c => by
      rw [if_neg c] at h
      by_cases c2 : m = p ∨ g < d
      · rw [if_pos c2] at h ⊢; exact h
      · rw [if_neg c2] at h ⊢; exact h
    refine ⟨_, rfl, _, _, _, rfl, hs.o, sF_no_has_member _ _, _, rfl, L, s, m, rfl, hs, _, rfl, ?_⟩
    cases c1 : s.hasMember m
    · rw [if_pos (.inl c1)] at h
      exact iteT (iteT h)
    refine iteF ⟨_, rfl, _, _, _, rfl, hs.o, sF_no_has_member _ _, _, rfl, L, s, p, rfl, hs, _, rfl, ?_⟩
    cases c2 : s.hasMember p
    · rw [if_pos (.inr c2)] at h
      exact iteT h
    have last := last fun z => by rcases z with z | z; rw [c1] at z; cases z; rw [c2] at z; cases z
    refine iteF ⟨_, rfl, _, rfl, rfl, _, rfl, ?_⟩
    refine (show (if decide (nV m = nV p) = true then _ else _) from ?_)
    rw [dec_nV]
    by_cases c3 : m = p
    · rw [if_pos (.inl c3)] at last
      rw [beq_iff_eq.mpr c3]
      exact iteT (iteT last)
    · rw [beq_eq_false_iff_ne.mpr c3]
      refine iteF ⟨_, rfl, _, rfl, _, _, rfl, rfl, _, rfl, ?_⟩
      by_cases c4 : g < d
      · rw [if_pos (.inr c4)] at last
        rw [decide_eq_true (show (d : Int) > g by omega)]
        exact iteT last
      · rw [if_neg (fun z => z.elim c3 c4)] at last
        rw [decide_eq_false (show ¬ (d : Int) > g by omega)]
        exact iteF last
end
end Nhp
/-! reports.py: the first half -/
namespace Nhp
open PySem PySem.Spec PyProof.Rows L2 LamX NdefX
def spOp0 (K : PySem.W.Frag) (op : Su201.Operation) : Sp := fun vs H Q _ => ∃ (L : SA) (s : Su201.RouteServer) (q : Addr), vs = [.ref L.a] ∧ SrvAt K H L s ∧ Wf s ∧ Tabs (Tl K) H ∧ Done K [] L q (Su201.execute s op) H Q
def spOp1 (K : PySem.W.Frag) (op : Nat → Su201.Operation) : Sp := fun vs H Q _ => ∃ (L : SA) (s : Su201.RouteServer) (q : Addr) (a : Nat), vs = [.ref L.a, nV a] ∧ SrvAt K H L s ∧ Wf s ∧ Tabs (Tl K) H ∧ Done K [] L q (Su201.execute s (op a)) H Q
def spOp2 (K : PySem.W.Frag) (op : Nat → Nat → Su201.Operation) : Sp := fun vs H Q _ => ∃ (L : SA) (s : Su201.RouteServer) (q : Addr) (a b : Nat), vs = [.ref L.a, nV a, nV b] ∧ SrvAt K H L s ∧ Wf s ∧ Tabs (Tl K) H ∧ Done K [] L q (Su201.execute s (op a b)) H Q
def spOp3 (K : PySem.W.Frag) (op : Nat → Nat → Nat → Su201.Operation) : Sp := fun vs H Q _ => ∃ (L : SA) (s : Su201.RouteServer) (q : Addr) (a b c : Nat), vs = [.ref L.a, nV a, nV b, nV c] ∧ SrvAt K H L s ∧ Wf s ∧ Tabs (Tl K) H ∧ Done K [] L q (Su201.execute s (op a b c)) H Q
section
variable {P : Program} {w : World} {K : PySem.W.Frag} {mg : Str → Option Value} {base : Heap}
theorem done_err {F : List Addr} {L : SA} {q p : Addr} {r : Su201.RouteServer × Su201.Result} {s : Su201.RouteServer} {c : Int} {H H' : Hp} {Q : VK} (h : Done K F L q r H Q) (e : r = (s, Su201.error c)) (hs : SrvAt K H L s) (x : Ex (Tl K) H H') (np : H' p = none) : Q (.ref p) (upd H' p (.lst [V.int c])) := by
  subst e
  exact h.rep hs (x.trans (exN np)) (nw_ex x (.inl np)) upd_same
theorem done_ok {F : List Addr} {L : SA} {q p : Addr} {r : Su201.RouteServer × Su201.Result} {s : Su201.RouteServer} {z : Su201.Result} {H H' : Hp} {Q : VK} (h : Done K F L q r H Q) (e : r = (s, z)) (hs : SrvAt K H L s) (x : Ex (Tl K) H H') (np : Nw H p) (hp : H' p = some (.lst (resV z))) : Q (.ref p) H' := by
  subst e
  exact h.rep hs x np hp
theorem len1 : 1 ≤ sizeLine := by decide
theorem hm_lt {s : Su201.RouteServer} {m : Nat} (h : s.hasMember m = true) : m < s.members.length := of_decide_eq_true h
theorem elig_len {s : Su201.RouteServer} (wf : Wf s) (m a l : Nat) : (s.eligibleRoutes m a l).length ≤ 20 := by
  have k := (fold_ranked s m (elig s m a l) [] List.Pairwise.nil).2.length_eq
  unfold Su201.RouteServer.eligibleRoutes
  rw [elig_is, k, List.append_nil]
  have h1 : (elig s m a l).length ≤ s.routes.length := Nat.le_trans (List.length_filter_le ..) (List.length_filter_le ..)
  have := wf.r20
  omega
theorem elig_in {s : Su201.RouteServer} {m a l : Nat} {x : Su201.Route} (h : x ∈ s.eligibleRoutes m a l) : x ∈ s.routes := (elig_mem (eligibleRoutes_mem h)).1
theorem sc_best : FnScope ["server", "member", "address", "length", "ranked"] ["server", "member", "address", "length"] (defScope s_best_route) := ⟨rfl, rfl, rfl, by decide +kernel, rfl, by decide +kernel, by decide +kernel⟩
theorem ok_best (T : Txt K mg) (TB : TabB base mg (He.cT K tp1).1 (He.cT K tp1).2) : Ok P w K mg base 7 (He.ga K "best_route") ["server", "member", "address", "length"] (spOp3 K Su201.Operation.bestRoute) := by
  refine ok_of T.d_best_route sc_best (fun vs H Q E h => ?_) (fun _ _ _ _ _ _ us hl => match us, hl with | [_, _, _, _], _ => rfl) (fun cdv A outer s H vs Q E hr h => ⟨_,
    pss_cons (ps_if (pt_not (pt_val (pe_mt (pv 0) T.c_RouteServer T.m_RouteServer_has_member (ok_has_member T) (hr.mono (by decide)) (pa_cons (pv 1) pa_nil)))) (pss_one (ps_ret (pe_lst (pa_cons (pe_gi rfl T.i_NO_MEMBER) pa_nil)))) pss_nil)
    (pss_cons (ps_if (pt_not (pt_val (pe_cl (ok_is_prefix T) (hr.mono (by decide)) rfl T.g_is_prefix (pa_cons (pv 2) (pa_cons (pv 3) pa_nil))))) (pss_one (ps_ret (pe_lst (pa_cons (pe_gi rfl T.i_INVALID) pa_nil)))) pss_nil)
    (pss_cons (ps_set (i := 4) sc_best.nd rfl (.inl rfl) (pe_mt (pv 0) T.c_RouteServer T.m_RouteServer_ranked_routes (ok_ranked T TB) hr (pa_cons (pv 1) (pa_cons (pv 2) (pa_cons (pv 3) pa_nil)))))
    (pss_cons (ps_if (pt_not (pt_truth (pv 4) (by intro _; rfl))) (pss_one (ps_ret (pe_lst (pa_cons (pe_gi rfl T.i_NO_MATCH) pa_nil)))) pss_nil)
    (pss_one (ps_ret (pe_op op_cat (pe_lst (pa_cons (pe_fld (pe_ix ix_list (pv 4) pe_int (fun _ _ => rfl)) rfl) (pa_cons (pe_callB call_len_seq rfl T.n_len PySem.boot_len (pa_cons (pe_fld (pe_ix ix_list (pv 4) pe_int (fun _ _ => rfl)) rfl) pa_nil)) pa_nil))) (pe_fld (pe_ix ix_list (pv 4) pe_int (fun _ _ => rfl)) rfl))))))), ?_⟩)
  · obtain ⟨L, s, q, m, a, l, rfl, _⟩ := h
    rfl
  · obtain ⟨L, s, q, m, a, l, rfl, hs, wf, tabs, h⟩ := h
    have x1 : s.hasMember m = false → Su201.execute s (.bestRoute m a l) = (s, Su201.error (-2)) := fun c => by
      show (if s.hasMember m = false then _ else _) = _
      rw [if_pos c]
    refine ⟨_, rfl, _, _, _, rfl, hs.o, sF_no_has_member _ _, _, rfl, L, s, m, rfl, hs, _, rfl, ?_⟩
    cases c1 : s.hasMember m
    · exact iteT ⟨len1, fun p np => done_err h (x1 c1) hs (Ex.refl _ _) np⟩
    have hm := hm_lt c1
    have x2 : Su201.isPrefix a l = false → Su201.execute s (.bestRoute m a l) = (s, Su201.error (-22)) := fun c => by
      show (if s.hasMember m = false then _ else if Su201.isPrefix a l = false then _ else _) = _
      rw [if_neg (by rw [c1]; exact Bool.noConfusion), if_pos c]
    refine iteF ⟨_, rfl, _, rfl, a, l, rfl, _, rfl, ?_⟩
    cases c2 : Su201.isPrefix a l
    · exact iteT ⟨len1, fun p np => done_err h (x2 c2) hs (Ex.refl _ _) np⟩
    have x3 : Su201.execute s (.bestRoute m a l) = (match s.bestRoute m a l with | none => (s, Su201.error (-33)) | some x => (s, Su201.ok x.announcer (x.asPath.length :: x.asPath))) := by
      show (if s.hasMember m = false then _ else if Su201.isPrefix a l = false then _ else _) = _
      rw [if_neg (by rw [c1]; exact Bool.noConfusion), if_neg (by rw [c2]; exact Bool.noConfusion)]
      cases s.bestRoute m a l <;> rfl
    rw [x3] at h
    have br : s.bestRoute m a l = (s.eligibleRoutes m a l).head? := rfl
    rw [br] at h
    have inr : ∀ x ∈ s.eligibleRoutes m a l, x.asPath.length ≤ 6 := fun x hx => (wf.rt x (elig_in hx)).len6
    refine iteF ⟨_, rfl, _, _, _, rfl, hs.o, sF_no_ranked_routes _ _, _, rfl, _, rfl, _, rfl, L, s, m, a, l, rfl, hs, wf, hm, tabs, fun H1 p e1 np t1 => ?_⟩
    obtain ⟨qs, hq, pq⟩ := t1
    refine ⟨_, rfl, _, .inl ⟨_, SqL.of hq, rfl⟩, ?_⟩
    generalize s.eligibleRoutes m a l = els at *
    cases pq with
    | nil => exact iteT ⟨len1, fun p2 np2 => done_err h rfl hs e1 np2⟩
    | @cons c r qs' xs' hc pq' =>
      obtain ⟨dx, q0, ho, hq0⟩ := hc
      have l6 := inr r (List.mem_cons_self ..)
      have nl : (nsV r.asPath).length = r.asPath.length := List.length_map _
      refine iteF ⟨_, rfl, _, _, _, _, rfl, rfl, SqL.of hq, atI_nat (j := 0) rfl, _, _, _, _, _, rfl, ho, T.c_Route, T.a_Route_announcer, rF_announcer _ _, _, rfl, _, _, _, _, rfl, rfl, SqL.of hq, atI_nat (j := 0) rfl, _, _, _, _, _, rfl, ho, T.c_Route, T.a_Route_as_path, rF_as_path _ _, _, _, rfl, .inl (SqL.of hq0), by show 2 ≤ sizeLine; decide, fun t nt => ?_⟩
      have e2 := e1.trans (exN (o := .lst [nV r.announcer, V.int ((nsV r.asPath).length : Int)]) nt)
      have sv : ∀ b o, H1 b = some o → upd H1 t (.lst [nV r.announcer, V.int ((nsV r.asPath).length : Int)]) b = some o := fun b o hb => same_new nt b o hb
      refine ⟨_, rfl, _, _, _, _, rfl, rfl, SqL.of (sv _ _ hq), atI_nat (j := 0) rfl, _, _, _, _, _, rfl, sv _ _ ho, T.c_Route, T.a_Route_as_path, rF_as_path _ _, t, q0, _, _, rfl, rfl, upd_same, sv _ _ hq0, Nat.le_of_lt (line_lt (by show 2 + (nsV r.asPath).length ≤ 100; omega)), fun z nz => ?_⟩
      refine done_ok h rfl hs (e2.trans (exN nz)) (nw_ex e2 (.inl nz)) ?_
      rw [upd_same, resV_is, nl]
      rfl
theorem sc_eligs : FnScope ["server", "member", "address", "length", "ranked", "route"] ["server", "member", "address", "length"] (defScope s_eligible_routes) := ⟨rfl, rfl, rfl, by decide +kernel, rfl, by decide +kernel, by decide +kernel⟩
/-- the invariant of a comprehension of announcers -/
def AnnI (D : Addr) (H : Hp) (xs : List Su201.Route) (i : Nat) (H' : Hp) : Prop := Same H H' ∧ H' D = some (.lst (nsV ((xs.take i).map (·.announcer))))
theorem ann_step {D : Addr} {H H' : Hp} {xs : List Su201.Route} {i : Nat} {r : Su201.Route} (f : AnnI D H xs i H') (nD : H D = none) (hl : xs.length ≤ 20) (hr : xs[i]? = some r) :
    ∃ acc, H' D = some (.lst acc) ∧ acc.length < sizeLine ∧ AnnI D H xs (i + 1) (upd H' D (.lst (acc ++ [nV r.announcer]))) := by
  obtain ⟨s, hD⟩ := f
  refine ⟨_, hD, line_lt (by unfold nsV; rw [List.length_map, List.length_map, List.length_take]; omega), fun b o e => ?_, ?_⟩
  · rw [upd_ne (ne_of_none e nD)]
    exact s _ _ e
  · rw [upd_same, take_more hr]
    unfold nsV
    rw [List.map_append, List.map_append]
    rfl
theorem ok_eligs (T : Txt K mg) (TB : TabB base mg (He.cT K tp1).1 (He.cT K tp1).2) : Ok P w K mg base 7 (He.ga K "eligible_routes") ["server", "member", "address", "length"] (spOp3 K Su201.Operation.eligibleRoutes) := by
  refine ok_of T.d_eligible_routes sc_eligs (fun vs H Q E h => ?_) (fun _ _ _ _ _ _ us hl => match us, hl with | [_, _, _, _], _ => rfl) (fun cdv A outer s H vs Q E hr h => ⟨_,
    pss_cons (ps_if (pt_not (pt_val (pe_mt (pv 0) T.c_RouteServer T.m_RouteServer_has_member (ok_has_member T) (hr.mono (by decide)) (pa_cons (pv 1) pa_nil)))) (pss_one (ps_ret (pe_lst (pa_cons (pe_gi rfl T.i_NO_MEMBER) pa_nil)))) pss_nil)
    (pss_cons (ps_if (pt_not (pt_val (pe_cl (ok_is_prefix T) (hr.mono (by decide)) rfl T.g_is_prefix (pa_cons (pv 2) (pa_cons (pv 3) pa_nil))))) (pss_one (ps_ret (pe_lst (pa_cons (pe_gi rfl T.i_INVALID) pa_nil)))) pss_nil)
    (pss_cons (ps_set (i := 4) sc_eligs.nd rfl (.inl rfl) (pe_mt (pv 0) T.c_RouteServer T.m_RouteServer_ranked_routes (ok_ranked T TB) hr (pa_cons (pv 1) (pa_cons (pv 2) (pa_cons (pv 3) pa_nil)))))
    (pss_one (ps_ret (pe_op op_cat (pe_lst (pa_cons (pe_callB call_len_seq rfl T.n_len PySem.boot_len (pa_cons (pv 4) pa_nil)) pa_nil)) (pe_lc (own := [("route", 5)]) (g := gName 5) (tt := tYes) rfl sc_eligs.nd (pi_list (pv 4)) (blkOk_by (N := ["server", "member", "address", "length", "ranked", "route"]) (sc := defScope s_eligible_routes) (by decide +kernel))
        (fun _ _ _ _ _ => pg_name (i := 5) sc_eligs.nd rfl (Or.inl rfl)) (fun _ _ _ _ _ => pts_nil) (te := tFld K (tVar 5) "announcer") (fun _ _ _ _ _ => pe_fld (pv 5) rfl))))))), ?_⟩)
  · obtain ⟨L, s, q, m, a, l, rfl, _⟩ := h
    rfl
  · obtain ⟨L, s, q, m, a, l, rfl, hs, wf, tabs, h⟩ := h
    have x1 : s.hasMember m = false → Su201.execute s (.eligibleRoutes m a l) = (s, Su201.error (-2)) := fun c => by
      show (if s.hasMember m = false then _ else _) = _
      rw [if_pos c]
    refine ⟨_, rfl, _, _, _, rfl, hs.o, sF_no_has_member _ _, _, rfl, L, s, m, rfl, hs, _, rfl, ?_⟩
    cases c1 : s.hasMember m
    · exact iteT ⟨len1, fun p np => done_err h (x1 c1) hs (Ex.refl _ _) np⟩
    have hm := hm_lt c1
    have x2 : Su201.isPrefix a l = false → Su201.execute s (.eligibleRoutes m a l) = (s, Su201.error (-22)) := fun c => by
      show (if s.hasMember m = false then _ else if Su201.isPrefix a l = false then _ else _) = _
      rw [if_neg (by rw [c1]; exact Bool.noConfusion), if_pos c]
    refine iteF ⟨_, rfl, _, rfl, a, l, rfl, _, rfl, ?_⟩
    cases c2 : Su201.isPrefix a l
    · exact iteT ⟨len1, fun p np => done_err h (x2 c2) hs (Ex.refl _ _) np⟩
    have x3 : Su201.execute s (.eligibleRoutes m a l) = (s, Su201.okList ((s.eligibleRoutes m a l).map fun x => x.announcer)) := by
      show (if s.hasMember m = false then _ else if Su201.isPrefix a l = false then _ else _) = _
      rw [if_neg (by rw [c1]; exact Bool.noConfusion), if_neg (by rw [c2]; exact Bool.noConfusion)]
    have l20 := elig_len wf m a l
    refine iteF ⟨_, rfl, _, _, _, rfl, hs.o, sF_no_ranked_routes _ _, _, rfl, _, rfl, _, rfl, L, s, m, a, l, rfl, hs, wf, hm, tabs, fun H1 p e1 np t1 => ?_⟩
    obtain ⟨qs, hq, pq⟩ := t1
    have ql := sqlen pq
    refine ⟨_, rfl, _, _, rfl, .inl (SqL.of hq), len1, fun t nt => ?_⟩
    have s2 : Same H1 (upd H1 t (.lst [V.int ((qs.map V.ref).length : Int)])) := same_new nt
    refine ⟨_, rfl, _, rfl, ⟨_, SqL.of (s2 _ _ hq)⟩, fun D nD => ?_⟩
    refine lc_list (K := K) (a := p) (xs := qs.map V.ref) (AnnI D (upd H1 t (.lst [V.int ((qs.map V.ref).length : Int)])) (s.eligibleRoutes m a l)) ⟨same_new nD, upd_same⟩ (fun i H' _ f => SqL.of (f.1 _ _ (s2 _ _ hq))) ?_ ?_
    · intro i x H' hx f
      obtain ⟨c, r, rfl, hr', dx, q0, ho, hq0⟩ := rs_at pq hx
      exact ⟨rfl, yes_of ⟨_, rfl, _, _, _, _, _, rfl, f.1 _ _ (s2 _ _ ho), T.c_Route, T.a_Route_announcer, rF_announcer _ _, ann_step f nD l20 hr'⟩⟩
    · rintro H2 ⟨s3, hD⟩
      rw [ql, List.take_length] at hD
      have ht : H2 t = some (.lst [V.int ((qs.map V.ref).length : Int)]) := s3 _ _ upd_same
      have nl : (nsV ((s.eligibleRoutes m a l).map (·.announcer))).length = (s.eligibleRoutes m a l).length := by unfold nsV; rw [List.length_map, List.length_map]
      refine ⟨t, D, _, _, rfl, rfl, ht, hD, Nat.le_of_lt (line_lt (by show 1 + (nsV _).length ≤ 100; rw [nl]; omega)), fun z nz => ?_⟩
      have e3 := (e1.trans (exS s2)).trans (exS (T := Tl K) s3)
      refine done_ok h x3 hs (e3.trans (exN nz)) (nw_ex e3 (.inl nz)) ?_
      rw [upd_same, resV_okList, ql, List.length_map]
end
end Nhp
/-! reports.py: the lists that are written row by row -/
namespace Nhp
open PySem PySem.Spec PyProof.Rows L2 LamX NdefX
section
variable {P : Program} {w : World} {K : PySem.W.Frag} {mg : Str → Option Value} {base : Heap}
theorem line_le {n : Nat} (h : n ≤ 10000) : n ≤ sizeLine := by
  have : (10000 : Nat) ≤ sizeLine := by decide
  omega
theorem ext_step {T : List (Addr × Str)} {H1 H' : Hp} {f t : Addr} {xs zs : List V} (e : Ex T H1 H') (nf : H1 f = none) (hf : H' f = some (.lst xs)) (nt : H' t = none) :
    upd H' t (.lst zs) f = some (.lst xs) ∧ Ex T H1 (upd (upd H' t (.lst zs)) f (.lst (xs ++ zs))) ∧ upd (upd H' t (.lst zs)) f (.lst (xs ++ zs)) f = some (.lst (xs ++ zs)) := by
  have h := (upd_ne (o := .lst zs) (ne_of_none hf nt)).trans hf
  exact ⟨h, ex_put (e.trans (exN nt)) nf h, upd_same⟩
theorem flat_len {α : Type} {f : α → List Nat} {k : Nat} : ∀ {l : List α}, (∀ x ∈ l, (f x).length ≤ k) → (l.flatMap f).length ≤ k * l.length
  | [], _ => Nat.zero_le _
  | x :: l, h => by
    rw [List.flatMap_cons, List.length_append, List.length_cons, Nat.mul_succ]
    have h1 := h x (List.mem_cons_self ..)
    have h2 := flat_len (l := l) fun y hy => h y (List.mem_cons_of_mem _ hy)
    omega
theorem flat_take {α : Type} {f : α → List Nat} {l : List α} {i : Nat} {x : α} (h : l[i]? = some x) : (l.take (i + 1)).flatMap f = (l.take i).flatMap f ++ f x := by
  rw [take_more h, List.flatMap_append, List.flatMap_cons, List.flatMap_nil, List.append_nil]
theorem nsV_app (a b : List Nat) : nsV (a ++ b) = nsV a ++ nsV b := List.map_append
theorem nsV_len (a : List Nat) : (nsV a).length = a.length := List.length_map _
theorem take_sub {α : Type} {l : List α} {i : Nat} {x : α} (h : x ∈ l.take i) : x ∈ l := List.mem_of_mem_take h
/-- a list that grows by rows -/
def GrowI (K : PySem.W.Frag) (f : Addr) (H1 : Hp) (hd : V) (l : List Nat) (H' : Hp) : Prop := Ex (Tl K) H1 H' ∧ H' f = some (.lst (hd :: nsV l))
theorem grow {f t : Addr} {H1 H' : Hp} {hd : V} {l r : List Nat} {vs : List V} (g : GrowI K f H1 hd l H') (nf : H1 f = none) (nt : H' t = none) (hr : vs = nsV r) (hl : l.length + r.length ≤ 9999) :
    upd H' t (.lst vs) f = some (.lst (hd :: nsV l)) ∧ (hd :: nsV l).length + vs.length ≤ sizeLine ∧ GrowI K f H1 hd (l ++ r) (upd (upd H' t (.lst vs)) f (.lst ((hd :: nsV l) ++ vs))) := by
  subst hr
  obtain ⟨a, b, c⟩ := ext_step (zs := nsV r) g.1 nf g.2 nt
  exact ⟨a, line_le (by rw [List.length_cons, nsV_len, nsV_len]; omega), b, by rw [c, nsV_app]; rfl⟩
theorem sc_rtable : FnScope ["server", "member", "table", "found", "route"] ["server", "member"] (defScope s_routing_table) := ⟨rfl, rfl, rfl, by decide +kernel, rfl, by decide +kernel, by decide +kernel⟩
def rowT (x : Su201.Route) : List Nat := [x.address, x.length, x.announcer]
theorem ok_rtable (T : Txt K mg) (TB : TabB base mg (He.cT K tp1).1 (He.cT K tp1).2) : Ok P w K mg base 8 (He.ga K "routing_table") ["server", "member"] (spOp1 K Su201.Operation.routingTable) := by
  refine ok_of T.d_routing_table sc_rtable (fun vs H Q E h => ?_) (fun _ _ _ _ _ _ us hl => match us, hl with | [_, _], _ => rfl) (fun cdv A outer s H vs Q E hr h => ⟨_,
    pss_cons (ps_if (pt_not (pt_val (pe_mt (pv 0) T.c_RouteServer T.m_RouteServer_has_member (ok_has_member T) (hr.mono (by decide)) (pa_cons (pv 1) pa_nil)))) (pss_one (ps_ret (pe_lst (pa_cons (pe_gi rfl T.i_NO_MEMBER) pa_nil)))) pss_nil)
    (pss_cons (ps_set (i := 2) sc_rtable.nd rfl (.inl rfl) (pe_mt (pv 0) T.c_RouteServer T.m_RouteServer_routing_table (ok_table T TB) hr (pa_cons (pv 1) pa_nil)))
    (pss_cons (ps_set (i := 3) sc_rtable.nd rfl (.inl rfl) (pe_lst (pa_cons (pe_callB call_len_seq rfl T.n_len PySem.boot_len (pa_cons (pv 2) pa_nil)) pa_nil)))
    (pss_cons (ps_for PassesOwn.never rfl (pi_list (pv 2)) (pg_name (i := 4) sc_rtable.nd rfl (.inl rfl)) (pss_one (ps_expr (pe_bm PySem.F.plainAttrs_list PySem.F.slot_list_extend PySem.F.type_list_extend mt_extend (pv 3) (pa_cons (pe_lst (pa_cons (pe_fld (pv 4) rfl) (pa_cons (pe_fld (pv 4) rfl) (pa_cons (pe_fld (pv 4) rfl) pa_nil)))) pa_nil)))))
    (pss_one (ps_ret (pv 3)))))), ?_⟩)
  · obtain ⟨L, s, q, m, rfl, _⟩ := h
    rfl
  · obtain ⟨L, s, q, m, rfl, hs, wf, tabs, h⟩ := h
    have x1 : s.hasMember m = false → Su201.execute s (.routingTable m) = (s, Su201.error (-2)) := fun c => by
      show (if s.hasMember m = false then _ else _) = _
      rw [if_pos c]
    refine ⟨_, rfl, _, _, _, rfl, hs.o, sF_no_has_member _ _, _, rfl, L, s, m, rfl, hs, _, rfl, ?_⟩
    cases c1 : s.hasMember m
    · exact iteT ⟨len1, fun p np => done_err h (x1 c1) hs (Ex.refl _ _) np⟩
    have hm := hm_lt c1
    have x3 : Su201.execute s (.routingTable m) = (s, Su201.ok (s.routingTable m).length ((s.routingTable m).flatMap rowT)) := by
      show (if s.hasMember m = false then _ else _) = _
      rw [if_neg (by rw [c1]; exact Bool.noConfusion)]
      rfl
    refine iteF ⟨_, rfl, _, _, _, rfl, hs.o, sF_no_routing_table _ _, _, rfl, L, s, m, rfl, hs, wf, hm, tabs, fun H1 p e1 np t1 => ?_⟩
    have l20 := table_len wf m
    obtain ⟨qs, hq, pq⟩ := t1
    have ql := sqlen pq
    refine ⟨_, rfl, _, _, rfl, .inl (SqL.of hq), len1, fun f nf => ?_⟩
    refine ⟨_, rfl, p, rfl, ⟨_, SqL.of (same_new nf _ _ hq)⟩, ?_⟩
    refine for_list (K := K) (a := p) (xs := qs.map V.ref) (fun i σ H' => GrowI K f H1 (V.int ((qs.map V.ref).length : Int)) (((s.routingTable m).take i).flatMap rowT) H' ∧ ∃ u, σ = [some (.ref L.a), some (nV m), some (.ref p), some (.ref f), u]) ⟨⟨exN nf, upd_same⟩, _, rfl⟩ (fun i σ H' _ g => SqL.of (g.1.1.at_ hq)) ?_ ?_
    · rintro i x σ H' hx ⟨g, u, rfl⟩
      obtain ⟨c, r, rfl, hr', hb⟩ := rs_at pq hx
      obtain ⟨dx, q0, ho, hq0⟩ := hb.ex g.1
      have lf : (((s.routingTable m).take i).flatMap rowT).length ≤ 3 * 20 := Nat.le_trans (flat_len (k := 3) fun _ _ => Nat.le_refl _) (Nat.mul_le_mul_left 3 (by rw [List.length_take]; omega))
      refine ⟨_, rfl, .inl ⟨rfl, _, SqL.of g.2⟩, _, rfl, _, _, _, _, _, rfl, ho, T.c_Route, T.a_Route_address, rF_address _ _, _, rfl, _, _, _, _, _, rfl, ho, T.c_Route, T.a_Route_length, rF_length _ _, _, rfl, _, _, _, _, _, rfl, ho, T.c_Route, T.a_Route_announcer, rF_announcer _ _, by show 3 ≤ sizeLine; decide, fun t nt => ?_⟩
      obtain ⟨a1, a2, a3⟩ := grow (r := rowT r) (vs := [nV r.address, nV r.length, nV r.announcer]) g nf nt rfl (by show _ + 3 ≤ 9999; omega)
      exact ⟨f, t, _, _, rfl, rfl, a1, upd_same, a2, by rw [flat_take hr']; exact a3, _, rfl⟩
    · rintro σ H' ⟨g, u, rfl⟩
      rw [ql, List.take_length] at g
      exact ⟨_, rfl, done_ok h x3 hs (e1.trans g.1) (nw_ex e1 (.inl nf)) (by rw [g.2, resV_is]; rfl)⟩
theorem sc_annp : FnScope ["server", "prefixes", "found", "address", "length"] ["server"] (defScope s_announced_prefixes) := ⟨rfl, rfl, rfl, by decide +kernel, rfl, by decide +kernel, by decide +kernel⟩
def rowP (y : Nat × Nat) : List Nat := [y.1, y.2]
theorem ok_annp (T : Txt K mg) : Ok P w K mg base 2 (He.ga K "announced_prefixes") ["server"] (spOp0 K Su201.Operation.announcedPrefixes) := by
  refine ok_of T.d_announced_prefixes sc_annp (fun vs H Q E h => ?_) (fun _ _ _ _ _ _ us hl => match us, hl with | [_], _ => rfl) (fun cdv A outer s H vs Q E hr h => ⟨_,
    pss_cons (ps_set (i := 1) sc_annp.nd rfl (.inl rfl) (pe_mt0 (pv 0) T.c_RouteServer T.m_RouteServer_prefixes_in_order (ok_prefixes T) hr))
    (pss_cons (ps_set (i := 2) sc_annp.nd rfl (.inl rfl) (pe_lst (pa_cons (pe_callB call_len_seq rfl T.n_len PySem.boot_len (pa_cons (pv 1) pa_nil)) pa_nil)))
    (pss_cons (ps_for PassesOwn.never rfl (pi_list (pv 1)) (pg_tup rfl (pgs_cons (pg_name (i := 3) sc_annp.nd rfl (.inl rfl)) (pgs_cons (pg_name (i := 4) sc_annp.nd rfl (.inl rfl)) pgs_nil))) (pss_one (ps_expr (pe_bm PySem.F.plainAttrs_list PySem.F.slot_list_extend PySem.F.type_list_extend mt_extend (pv 2) (pa_cons (pe_lst (pa_cons (pv 3) (pa_cons (pv 4) pa_nil))) pa_nil)))))
    (pss_one (ps_ret (pv 2))))), ?_⟩)
  · obtain ⟨L, s, q, rfl, _⟩ := h
    rfl
  · obtain ⟨L, s, q, rfl, hs, wf, tabs, h⟩ := h
    have x3 : Su201.execute s .announcedPrefixes = (s, Su201.ok s.prefixes.length (s.prefixes.flatMap rowP)) := rfl
    refine ⟨_, rfl, _, _, _, rfl, hs.o, sF_no_prefixes_in_order _ _, L, s, rfl, hs, wf, fun H1 p ts e1 np hp pts => ?_⟩
    have l20 := prefixes_len wf
    have ql : (ts.map V.ref).length = s.prefixes.length := by rw [List.length_map, pts.length]
    refine ⟨_, rfl, _, _, rfl, .inl (SqL.of hp), len1, fun f nf => ?_⟩
    refine ⟨_, rfl, p, rfl, ⟨_, SqL.of (same_new nf _ _ hp)⟩, ?_⟩
    refine for_list (K := K) (a := p) (xs := ts.map V.ref) (fun i σ H' => GrowI K f H1 (V.int ((ts.map V.ref).length : Int)) ((s.prefixes.take i).flatMap rowP) H' ∧ ∃ u v, σ = [some (.ref L.a), some (.ref p), some (.ref f), u, v]) ⟨⟨exN nf, upd_same⟩, _, _, rfl⟩ (fun i σ H' _ g => SqL.of (g.1.1.at_ hp)) ?_ ?_
    · rintro i x σ H' hx ⟨g, u, v, rfl⟩
      obtain ⟨c, r, rfl, hr', hb⟩ := ts_at pts hx
      have lf : ((s.prefixes.take i).flatMap rowP).length ≤ 2 * 20 := Nat.le_trans (flat_len (k := 2) fun _ _ => Nat.le_refl _) (Nat.mul_le_mul_left 2 (by rw [List.length_take]; omega))
      refine ⟨_, _, rfl, SqT.of (g.1.at_ hb), rfl, _, _, rfl, _, _, rfl, rfl, _, rfl, .inl ⟨rfl, _, SqL.of g.2⟩, _, rfl, _, rfl, by show 2 ≤ sizeLine; decide, fun t nt => ?_⟩
      obtain ⟨a1, a2, a3⟩ := grow (r := rowP r) (vs := [nV r.1, nV r.2]) g nf nt rfl (by show _ + 2 ≤ 9999; omega)
      exact ⟨f, t, _, _, rfl, rfl, a1, upd_same, a2, by rw [flat_take hr']; exact a3, _, _, rfl⟩
    · rintro σ H' ⟨g, u, v, rfl⟩
      rw [ql, List.take_length] at g
      exact ⟨_, rfl, done_ok h x3 hs (e1.trans g.1) (nw_ex e1 (.inl nf)) (by rw [g.2, resV_is]; rfl)⟩
theorem sc_mroutes : FnScope ["server", "member", "route", "routes", "found"] ["server", "member"] (defScope s_member_routes) := ⟨rfl, rfl, rfl, by decide +kernel, rfl, by decide +kernel, by decide +kernel⟩
def rowR (x : Su201.Route) : List Nat := x.address :: x.length :: x.asPath.length :: x.asPath
theorem ok_mroutes (T : Txt K mg) : Ok P w K mg base 2 (He.ga K "member_routes") ["server", "member"] (spOp1 K Su201.Operation.memberRoutes) := by
  refine ok_of T.d_member_routes sc_mroutes (fun vs H Q E h => ?_) (fun _ _ _ _ _ _ us hl => match us, hl with | [_, _], _ => rfl) (fun cdv A outer s H vs Q E hr h => ⟨_,
    pss_cons (ps_if (pt_not (pt_val (pe_mt (pv 0) T.c_RouteServer T.m_RouteServer_has_member (ok_has_member T) (hr.mono (by decide)) (pa_cons (pv 1) pa_nil)))) (pss_one (ps_ret (pe_lst (pa_cons (pe_gi rfl T.i_NO_MEMBER) pa_nil)))) pss_nil)
    (pss_cons (ps_setLc (i := 3) (own := [("route", 2)]) (g := gName 2) (tt := _) rfl sc_mroutes.nd rfl rfl (sw_true rfl rfl rfl (by decide +kernel)) (pi_list (pe_fld (pv 0) rfl)) (blkOk_by (N := ["server", "member", "route", "routes", "found"]) (sc := defScope s_member_routes) (by decide +kernel))
        (fun _ _ _ _ _ => pg_name (i := 2) sc_mroutes.nd rfl (Or.inl rfl)) (fun _ _ _ _ _ => pts_one (pt_cmpR op_eq (show PE _ _ (tFld K (tVar 2) "announcer") from pe_fld (pv 2) rfl) (pv 1) (nomark _))) (fun _ _ _ _ _ => pv 2))
    (pss_cons (ps_set (i := 4) sc_mroutes.nd rfl (.inl rfl) (pe_lst (pa_cons (pe_callB call_len_seq rfl T.n_len PySem.boot_len (pa_cons (pv 3) pa_nil)) pa_nil)))
    (pss_cons (ps_for PassesOwn.never rfl (pi_list (pv 3)) (pg_name (i := 2) sc_mroutes.nd rfl (.inl rfl)) (pss_one (ps_expr (pe_bm PySem.F.plainAttrs_list PySem.F.slot_list_extend PySem.F.type_list_extend mt_extend (pv 4) (pa_cons (pe_op op_cat (pe_lst (pa_cons (pe_fld (pv 2) rfl) (pa_cons (pe_fld (pv 2) rfl) (pa_cons (pe_callB call_len_seq rfl T.n_len PySem.boot_len (pa_cons (pe_fld (pv 2) rfl) pa_nil)) pa_nil)))) (pe_fld (pv 2) rfl)) pa_nil)))))
    (pss_one (ps_ret (pv 4)))))), ?_⟩)
  · obtain ⟨L, s, q, m, rfl, _⟩ := h
    rfl
  · obtain ⟨L, s, q, m, rfl, hs, wf, tabs, h⟩ := h
    have x1 : s.hasMember m = false → Su201.execute s (.memberRoutes m) = (s, Su201.error (-2)) := fun c => by
      show (if s.hasMember m = false then _ else _) = _
      rw [if_pos c]
    refine ⟨_, rfl, _, _, _, rfl, hs.o, sF_no_has_member _ _, _, rfl, L, s, m, rfl, hs, _, rfl, ?_⟩
    cases c1 : s.hasMember m
    · exact iteT ⟨len1, fun p np => done_err h (x1 c1) hs (Ex.refl _ _) np⟩
    have hm := hm_lt c1
    have r20 := wf.r20
    have x3 : Su201.execute s (.memberRoutes m) = (s, Su201.ok (s.routes.filter fun x => x.announcer == m).length ((s.routes.filter fun x => x.announcer == m).flatMap rowR)) := by
      show (if s.hasMember m = false then _ else _) = _
      rw [if_neg (by rw [c1]; exact Bool.noConfusion)]
      rfl
    refine iteF ⟨_, rfl, _, _, _, _, _, rfl, hs.o, T.c_RouteServer, T.a_RouteServer_routes, sF_routes _ _, _, rfl, ⟨_, SqL.of hs.rl⟩, fun D nD => ?_⟩
    refine lc_list (K := K) (a := L.rl) (xs := L.rs.map V.ref) (fun i H' => FilI K D H (fun x => x.announcer == m) s.routes i H') (fil_0 nD) (fun i H' _ f => SqL.of (f.1.at_ hs.rl)) ?_ ?_
    · intro i x H' hx f
      obtain ⟨b, r, rfl, hr', hb⟩ := rs_at hs.rou hx
      obtain ⟨dx, q, ho, hq⟩ := hb.ex f.1
      refine ⟨rfl, _, rfl, _, _, _, _, _, rfl, ho, T.c_Route, T.a_Route_announcer, rF_announcer _ _, _, rfl, rfl, _, rfl, ?_⟩
      refine if_of (b := decide (nV r.announcer = nV m)) (fun c => ⟨_, rfl, fil_yes f nD (by omega) hr' hb (by rw [dec_nV] at c; exact c)⟩) (fun c => fil_no f hr' (by rw [dec_nV] at c; exact c))
    · intro H1 f1
      obtain ⟨e1, qs, hq, pq0⟩ := fil_end (sqlen hs.rou) f1
      have pq := rous_ex pq0 e1
      have ql := sqlen pq
      have fl20 : (s.routes.filter fun x => x.announcer == m).length ≤ 20 := Nat.le_trans (List.length_filter_le ..) r20
      have in1 : ∀ r ∈ s.routes.filter (fun x => x.announcer == m), r ∈ s.routes := fun r hr => (List.mem_filter.mp hr).1
      refine ⟨_, rfl, _, _, rfl, .inl (SqL.of hq), len1, fun f nf => ?_⟩
      refine ⟨_, rfl, D, rfl, ⟨_, SqL.of (same_new nf _ _ hq)⟩, ?_⟩
      refine for_list (K := K) (a := D) (xs := qs.map V.ref) (fun i σ H' => GrowI K f H1 (V.int ((qs.map V.ref).length : Int)) (((s.routes.filter fun x => x.announcer == m).take i).flatMap rowR) H' ∧ ∃ u, σ = [some (.ref L.a), some (nV m), u, some (.ref D), some (.ref f)]) ⟨⟨exN nf, upd_same⟩, _, rfl⟩ (fun i σ H' _ g => SqL.of (g.1.1.at_ hq)) ?_ ?_
      · rintro i x σ H' hx ⟨g, u, rfl⟩
        obtain ⟨c, r, rfl, hr', hb⟩ := rs_at pq hx
        obtain ⟨dx, q0, ho, hq0⟩ := hb.ex g.1
        have l6 : ∀ r ∈ (s.routes.filter fun x => x.announcer == m), r.asPath.length ≤ 6 := fun r hr => (wf.rt r (in1 r hr)).len6
        have lr := l6 r (List.mem_of_getElem? hr')
        have lf : (((s.routes.filter fun x => x.announcer == m).take i).flatMap rowR).length ≤ 9 * 20 := Nat.le_trans (flat_len (k := 9) fun y hy => by
          have := l6 y (take_sub hy)
          show (y.asPath.length + 1 + 1 + 1) ≤ 9
          omega) (Nat.mul_le_mul_left 9 (by rw [List.length_take]; omega))
        refine ⟨_, rfl, .inl ⟨rfl, _, SqL.of g.2⟩, _, rfl, _, _, _, _, _, rfl, ho, T.c_Route, T.a_Route_address, rF_address _ _, _, rfl, _, _, _, _, _, rfl, ho, T.c_Route, T.a_Route_length, rF_length _ _, _, rfl, _, _, _, _, _, rfl, ho, T.c_Route, T.a_Route_as_path, rF_as_path _ _, _, _, rfl, .inl (SqL.of hq0), by show 3 ≤ sizeLine; decide, fun t nt => ?_⟩
        have sv : ∀ b o, H' b = some o → upd H' t (.lst [nV r.address, nV r.length, V.int ((nsV r.asPath).length : Int)]) b = some o := fun b o hb => same_new nt b o hb
        refine ⟨_, rfl, _, _, _, _, _, rfl, sv _ _ ho, T.c_Route, T.a_Route_as_path, rF_as_path _ _, t, q0, _, _, rfl, rfl, upd_same, sv _ _ hq0, line_le (by show 3 + (nsV r.asPath).length ≤ 10000; rw [nsV_len]; omega), fun t2 n2 => ?_⟩
        have g2 : GrowI K f H1 (V.int ((qs.map V.ref).length : Int)) (((s.routes.filter fun x => x.announcer == m).take i).flatMap rowR) (upd H' t (.lst [nV r.address, nV r.length, V.int ((nsV r.asPath).length : Int)])) := ⟨g.1.trans (exN nt), sv _ _ g.2⟩
        obtain ⟨a1, a2, a3⟩ := grow (r := rowR r) (vs := [nV r.address, nV r.length, V.int ((nsV r.asPath).length : Int)] ++ nsV r.asPath) g2 nf n2 (by rw [nsV_len]; rfl) (by show _ + (r.asPath.length + 1 + 1 + 1) ≤ 9999; omega)
        exact ⟨f, t2, _, _, rfl, rfl, a1, upd_same, a2, by rw [flat_take hr']; exact a3, _, rfl⟩
      · rintro σ H' ⟨g, u, rfl⟩
        rw [ql, List.take_length] at g
        exact ⟨_, rfl, done_ok h x3 hs (e1.trans g.1) (nw_ex e1 (.inl nf)) (by rw [g.2, resV_is]; rfl)⟩
theorem sc_mpolicy : FnScope ["server", "member", "policies", "found", "peer"] ["server", "member"] (defScope s_member_policy) := ⟨rfl, rfl, rfl, by decide +kernel, rfl, by decide +kernel, by decide +kernel⟩
def rowM (s : Su201.RouteServer) (m r : Nat) : List Nat := [Su201.boolToNat ((s.member m).exportDenied.contains r), Su201.boolToNat ((s.member m).importDenied.contains r), s.preference m r]
theorem z0 (i : Nat) (a : Addr) : [V.ref a, V.int (0 + (i : Int))] = [V.ref a, nV i] := by rw [Int.zero_add]
theorem ok_mpolicy (T : Txt K mg) : Ok P w K mg base 2 (He.ga K "member_policy") ["server", "member"] (spOp1 K Su201.Operation.memberPolicy) := by
  refine ok_of T.d_member_policy sc_mpolicy (fun vs H Q E h => ?_) (fun _ _ _ _ _ _ us hl => match us, hl with | [_, _], _ => rfl) (fun cdv A outer s H vs Q E hr h => ⟨_,
    pss_cons (ps_if (pt_not (pt_val (pe_mt (pv 0) T.c_RouteServer T.m_RouteServer_has_member (ok_has_member T) (hr.mono (by decide)) (pa_cons (pv 1) pa_nil)))) (pss_one (ps_ret (pe_lst (pa_cons (pe_gi rfl T.i_NO_MEMBER) pa_nil)))) pss_nil)
    (pss_cons (ps_set (i := 2) sc_mpolicy.nd rfl (.inl rfl) (pe_ix ix_list (pe_fld (pv 0) rfl) (pv 1) (fun _ _ => rfl)))
    (pss_cons (ps_set (i := 3) sc_mpolicy.nd rfl (.inl rfl) (pe_lst (pa_cons (pe_fld (pv 2) rfl) pa_nil)))
    (pss_cons (ps_for PassesOwn.never rfl (pi_range1 rfl T.n_range (pa_cons (pe_callB call_len_seq rfl T.n_len PySem.boot_len (pa_cons (pe_fld (pv 0) rfl) pa_nil)) pa_nil)) (pg_name (i := 4) sc_mpolicy.nd rfl (.inl rfl)) (pss_one (ps_expr (pe_bm PySem.F.plainAttrs_list PySem.F.slot_list_extend PySem.F.type_list_extend mt_extend (pv 3) (pa_cons (pe_lst (pa_cons (pe_mt (pv 2) T.c_Member T.m_Member_export_denied (ok_exp T) hr (pa_cons (pv 4) pa_nil)) (pa_cons (pe_mt (pv 2) T.c_Member T.m_Member_import_denied (ok_imp T) hr (pa_cons (pv 4) pa_nil)) (pa_cons (pe_mt (pv 2) T.c_Member T.m_Member_preference_for (ok_pref T) hr (pa_cons (pv 4) pa_nil)) pa_nil)))) pa_nil)))))
    (pss_one (ps_ret (pv 3)))))), ?_⟩)
  · obtain ⟨L, s, q, m, rfl, _⟩ := h
    rfl
  · obtain ⟨L, s, q, m, rfl, hs, wf, tabs, h⟩ := h
    have x1 : s.hasMember m = false → Su201.execute s (.memberPolicy m) = (s, Su201.error (-2)) := fun c => by
      show (if s.hasMember m = false then _ else _) = _
      rw [if_pos c]
    refine ⟨_, rfl, _, _, _, rfl, hs.o, sF_no_has_member _ _, _, rfl, L, s, m, rfl, hs, _, rfl, ?_⟩
    cases c1 : s.hasMember m
    · exact iteT ⟨len1, fun p np => done_err h (x1 c1) hs (Ex.refl _ _) np⟩
    have hm := hm_lt c1
    have m6 := wf.m6
    have x3 : Su201.execute s (.memberPolicy m) = (s, Su201.ok (s.member m).asn ((List.range s.members.length).flatMap (rowM s m))) := by
      show (if s.hasMember m = false then _ else _) = _
      rw [if_neg (by rw [c1]; exact Bool.noConfusion)]
      rfl
    obtain ⟨xm, em, mm⟩ := hs.member hm
    have hl : (L.ms.map fun x => V.ref x.a).length = s.members.length := by rw [List.length_map, hs.mem.length]
    refine iteF ⟨_, rfl, _, _, _, _, _, rfl, hs.o, T.c_RouteServer, T.a_RouteServer_members, sF_members _ _, _, rfl, _, _, _, _, rfl, rfl, SqL.of hs.ml, atI_nat (ms_at em), ?_⟩
    refine ⟨_, rfl, _, _, _, _, _, rfl, mm.o, T.c_Member, T.a_Member_asn, mF_asn _ _, len1, fun f nf => ?_⟩
    have e0 : Ex (Tl K) H (upd H f (.lst [nV (s.member m).asn])) := exN nf
    have hs0 := hs.ex e0
    refine ⟨_, rfl, _, _, _, _, _, rfl, hs0.o, T.c_RouteServer, T.a_RouteServer_members, sF_members _ _, _, _, rfl, .inl (SqL.of hs0.ml), _, rfl, by omega, by omega, ?_⟩
    have hn : (((L.ms.map fun x => V.ref x.a).length : Int)).toNat = s.members.length := by rw [hl]; rfl
    rw [hn]
    refine for_range (lo := 0) (n := s.members.length) (fun i σ H' => GrowI K f H (nV (s.member m).asn) ((List.range i).flatMap (rowM s m)) H' ∧ ∃ u, σ = [some (.ref L.a), some (nV m), some (.ref xm.a), some (.ref f), u]) ⟨⟨e0, upd_same⟩, _, rfl⟩ ?_ ?_
    · rintro i σ H' hi ⟨g, u, rfl⟩
      have mx := mm.ex g.1
      have lf : ((List.range i).flatMap (rowM s m)).length ≤ 3 * i := Nat.le_trans (flat_len (k := 3) fun _ _ => Nat.le_refl _) (by rw [List.length_range]; exact Nat.le_refl _)
      refine ⟨_, rfl, .inl ⟨rfl, _, SqL.of g.2⟩, _, rfl, _, _, _, rfl, mx.o, mF_no_export_denied _ _, _, rfl, xm, s.member m, i, z0 i _, mx, _, rfl, _, _, _, rfl, mx.o, mF_no_import_denied _ _, _, rfl, xm, s.member m, i, z0 i _, mx, _, rfl, _, _, _, rfl, mx.o, mF_no_preference_for _ _, _, rfl, xm, s.member m, i, z0 i _, mx, by show 3 ≤ sizeLine; decide, fun t nt => ?_⟩
      obtain ⟨a1, a2, a3⟩ := grow (r := rowM s m i) (vs := nsV (rowM s m i)) g nf nt rfl (by show _ + 3 ≤ 9999; omega)
      refine ⟨f, t, _, _, rfl, rfl, a1, upd_same, a2, ?_, _, rfl⟩
      rw [List.range_succ, List.flatMap_append, List.flatMap_cons, List.flatMap_nil, List.append_nil]
      exact a3
    · rintro σ H' ⟨g, u, rfl⟩
      exact ⟨_, rfl, done_ok h x3 hs g.1 (.inl nf) (by rw [g.2, resV_is]; rfl)⟩
end
end Nhp
/-! reports.py: longest match and what leans on it; users_of -/
namespace Nhp
open PySem PySem.Spec PyProof.Rows L2 LamX NdefX
def spLong (K : PySem.W.Frag) : Sp := fun vs H Q _ => ∃ (t : Addr) (tb : List Su201.Route) (x : Nat), vs = [.ref t, nV x] ∧ TabAt (cR K) H t tb ∧ (∀ r ∈ tb, Su201.isPrefix r.address r.length = true) ∧ tb.length ≤ 20 ∧ Tabs (Tl K) H ∧
  ∀ H', Ex (Tl K) H H' → (Su201.lookupIn tb x = none → Q .non H') ∧ ∀ b r, Su201.lookupIn tb x = some r → RouAt (cR K) H b r → Q (.ref b) H'
section
variable {P : Program} {w : World} {K : PySem.W.Frag} {mg : Str → Option Value} {base : Heap}
noncomputable def keyI (K : PySem.W.Frag) (H : Hp) : V → Int
  | .ref a => (open Classical in if h : ∃ r, RouAt (cR K) H a r then (h.choose.length : Int) else 0)
  | _ => 0
theorem keyI_is {H : Hp} {a : Addr} {r : Su201.Route} (h : RouAt (cR K) H a r) : keyI K H (.ref a) = (r.length : Int) := by
  have z : ∃ r, RouAt (cR K) H a r := ⟨r, h⟩
  unfold keyI
  simp only [dif_pos z]
  rw [rou_fun z.choose_spec h]
theorem lamq2 : d_longest_match.qual ++ ".<locals>." ++ "<lambda>" = ("longest_match.<locals>.<lambda>" : Str) := by decide +kernel
theorem sc_long : FnScope ["table", "destination", "matching", "route"] ["table", "destination"] (defScope s_longest_match) := ⟨rfl, rfl, rfl, by decide +kernel, rfl, by decide +kernel, by decide +kernel⟩
theorem ok_long (T : Txt K mg) (TB : TabB base mg (He.cT K tp2).1 (He.cT K tp2).2) : Ok P w K mg base 3 (He.ga K "longest_match") ["table", "destination"] (spLong K) := by
  refine ok_ofC (d := tp2) T.d_longest_match sc_long (fun vs H Q E h => ?_) (fun _ _ _ _ _ _ us hl => match us, hl with | [_, _], _ => rfl) (fun A outer s H vs Q E hr h => ⟨_,
    pss_cons (ps_setLc (i := 2) (own := [("route", 3)]) (g := gName 3) (tt := _) rfl sc_long.nd rfl rfl (sw_true rfl rfl rfl (by decide +kernel)) (pi_list (pv 0)) (blkOk_by (N := ["table", "destination", "matching", "route"]) (sc := defScope s_longest_match) (by decide +kernel))
        (fun _ _ _ _ _ => pg_name (i := 3) sc_long.nd rfl (Or.inl rfl)) (fun _ _ _ _ _ => pts_one (pt_val (pe_mt (pv 3) T.c_Route T.m_Route_contains (ok_contains T) hr (pa_cons (pv 1) pa_nil)))) (fun _ _ _ _ _ => pv 3))
    (pss_one (ps_ret (pe_maxKey (T := Tl K) (k := 0) (N := ["route"]) (fr := []) (js := []) rfl rfl T.n_max TB rfl ?_ ?_ hr rfl ⟨rfl, rfl, rfl, by decide +kernel, rfl, by decide +kernel, by decide +kernel, by decide +kernel, by decide +kernel⟩ (fun y hy e => ?_) (fun _ h => nomatch h) rfl (fun _ _ _ _ _ us hl => match us, hl with | [_], _ => rfl) (pv 2)
        (fun f c' A' outer' s' H' hr2 => show PE _ _ (tFld K (tVar 0) "length") from pe_fld (pv 0) rfl)))), ?_⟩)
  · obtain ⟨x, m, n, rfl, _⟩ := h
    rfl
  · exact List.mem_cons_of_mem _ (List.mem_cons.mpr (.inl (Prod.ext rfl lamq2)))
  · intro p hp e
    rcases List.mem_cons.mp hp with rfl | hp
    · exact absurd e T.tne
    · rcases List.mem_cons.mp hp with rfl | hp
      · exact lamq2.symm
      · cases hp
  · exfalso
    have z : ∀ y ∈ ([("route", .local)] : List (Str × NameKind)), y.2 = .free → False := by decide +kernel
    exact z y hy e
  · obtain ⟨t, tb, x, rfl, ⟨rs, ht, pr⟩, pfx, l20, tabs, h⟩ := h
    refine ⟨_, rfl, _, rfl, ⟨_, SqL.of ht⟩, fun D nD => ?_⟩
    refine lc_list (K := K) (a := t) (xs := rs.map V.ref) (fun i H' => FilI K D H (fun y => Su201.prefixContains y.address y.length x) tb i H') (fil_0 nD) (fun i H' _ f => SqL.of (f.1.at_ ht)) ?_ ?_
    · intro i v H' hx f
      obtain ⟨b, r, rfl, hr', hb⟩ := rs_at pr hx
      have hb2 := hb.ex f.1
      obtain ⟨dx, q, ho, hq⟩ := hb2
      refine ⟨rfl, _, rfl, _, _, _, rfl, ho, rF_no_contains _ _, _, rfl, b, r, x, rfl, ⟨dx, q, ho, hq⟩, pfx r (List.mem_of_getElem? hr'), _, rfl, ?_⟩
      exact if_of (fun c => ⟨_, rfl, fil_yes f nD (by omega) hr' hb c⟩) (fun c => fil_no f hr' c)
    · intro H1 f1
      obtain ⟨e1, qs, hq, pq⟩ := fil_end (sqlen pr) f1
      have pq : Paired (RouAt (cR K) H) qs (hits tb x) := pq
      refine ⟨_, rfl, D, qs.map V.ref, keyI K H, rfl, SqL.of hq, fun y hy => ?_, e1.2 tabs, fun H2 x2 t2 => ?_⟩
      · obtain ⟨b, _, e⟩ := List.mem_map.mp hy
        exact ⟨b, e.symm⟩
      have e2 : Ex (Tl K) H1 H2 := ⟨x2, fun _ => t2⟩
      refine ⟨SqL.of (e2.at_ hq), fun y hy H' s' => ?_, fun e0 H' s' => ?_, fun i y H' hy best s' => ?_⟩
      · obtain ⟨b, hb, rfl⟩ := List.mem_map.mp hy
        obtain ⟨r, hr', rb⟩ := paired_left pq b hb
        obtain ⟨dx, q, ho, hq'⟩ := rb.ex ((e1.trans e2).trans (exS s'))
        exact ⟨_, rfl, _, _, _, _, _, rfl, ho, T.c_Route, T.a_Route_length, rF_length _ _, Same.refl _, congrArg V.int (keyI_is rb).symm⟩
      · refine (h H' ((e1.trans e2).trans (exS s'))).1 (lookup_none ?_)
        have := pq.length
        rw [List.map_eq_nil_iff.mp e0] at this
        exact List.length_eq_zero_iff.mp this.symm
      · obtain ⟨b, r, rfl, hr', rb⟩ := rs_at pq hy
        have kk : ∀ j (z : Su201.Route), (hits tb x)[j]? = some z → z.length ≤ r.length ∧ (j < i → z.length < r.length) := fun j z hz => by
          obtain ⟨c, hc, rc⟩ := paired_get pq hz
          have hj : (qs.map V.ref)[j]? = some (V.ref c) := by rw [List.getElem?_map, hc]; rfl
          have := best.2 j _ _ (at_len hj) hy hj
          rw [keyI_is rb, keyI_is rc] at this
          exact ⟨by omega, fun hlt => by have := this.2 hlt; omega⟩
        exact (h H' ((e1.trans e2).trans (exS s'))).2 b r (lookup_best hr' (fun j z hlt hz => (kk j z hz).2 hlt) (fun j z hz => (kk j z hz).1)) rb
theorem table_pfx {s : Su201.RouteServer} (wf : Wf s) (m : Nat) : ∀ r ∈ s.routingTable m, Su201.isPrefix r.address r.length = true := fun r hr => (wf.rt r (table_mem hr)).pre
theorem sc_lookup : FnScope ["server", "member", "destination", "route"] ["server", "member", "destination"] (defScope s_lookup) := ⟨rfl, rfl, rfl, by decide +kernel, rfl, by decide +kernel, by decide +kernel⟩
theorem ok_lookup (T : Txt K mg) (TB1 : TabB base mg (He.cT K tp1).1 (He.cT K tp1).2) (TB2 : TabB base mg (He.cT K tp2).1 (He.cT K tp2).2) : Ok P w K mg base 8 (He.ga K "lookup") ["server", "member", "destination"] (spOp2 K Su201.Operation.lookup) := by
  refine ok_of T.d_lookup sc_lookup (fun vs H Q E h => ?_) (fun _ _ _ _ _ _ us hl => match us, hl with | [_, _, _], _ => rfl) (fun cdv A outer s H vs Q E hr h => ⟨_,
    pss_cons (ps_if (pt_not (pt_val (pe_mt (pv 0) T.c_RouteServer T.m_RouteServer_has_member (ok_has_member T) (hr.mono (by decide)) (pa_cons (pv 1) pa_nil)))) (pss_one (ps_ret (pe_lst (pa_cons (pe_gi rfl T.i_NO_MEMBER) pa_nil)))) pss_nil)
    (pss_cons (ps_if (pt_not (pt_val (pe_cl (ok_is_address T) (hr.mono (by decide)) rfl T.g_is_address (pa_cons (pv 2) pa_nil)))) (pss_one (ps_ret (pe_lst (pa_cons (pe_gi rfl T.i_INVALID) pa_nil)))) pss_nil)
    (pss_cons (ps_set (i := 3) sc_lookup.nd rfl (.inl rfl) (pe_cl (ok_long T TB2) (hr.mono (by decide)) rfl T.g_longest_match (pa_cons (pe_mt (pv 0) T.c_RouteServer T.m_RouteServer_routing_table (ok_table T TB1) hr (pa_cons (pv 1) pa_nil)) (pa_cons (pv 2) pa_nil))))
    (pss_cons (ps_if (pt_cmpR op_isN (pv 3) pe_non (nomark _)) (pss_one (ps_ret (pe_lst (pa_cons (pe_gi rfl T.i_NO_MATCH) pa_nil)))) pss_nil)
    (pss_one (ps_ret (pe_lst (pa_cons (pe_fld (pv 3) rfl) (pa_cons (pe_fld (pv 3) rfl) (pa_cons (pe_fld (pv 3) rfl) pa_nil))))))))), ?_⟩)
  · obtain ⟨L, s, q, m, x, rfl, _⟩ := h
    rfl
  · obtain ⟨L, s, q, m, x, rfl, hs, wf, tabs, h⟩ := h
    have x1 : s.hasMember m = false → Su201.execute s (.lookup m x) = (s, Su201.error (-2)) := fun c => by
      show (if s.hasMember m = false then _ else _) = _
      rw [if_pos c]
    refine ⟨_, rfl, _, _, _, rfl, hs.o, sF_no_has_member _ _, _, rfl, L, s, m, rfl, hs, _, rfl, ?_⟩
    cases c1 : s.hasMember m
    · exact iteT ⟨len1, fun p np => done_err h (x1 c1) hs (Ex.refl _ _) np⟩
    have hm := hm_lt c1
    have x2 : ¬ x < 256 → Su201.execute s (.lookup m x) = (s, Su201.error (-22)) := fun c => by
      show (if s.hasMember m = false then _ else if 256 ≤ x then _ else _) = _
      rw [if_neg (by rw [c1]; exact Bool.noConfusion), if_pos (by omega)]
    refine iteF ⟨_, rfl, x, rfl, _, rfl, ?_⟩
    by_cases c2 : x < 256
    rotate_left
    · rw [decide_eq_false c2]
      exact iteT ⟨len1, fun p np => done_err h (x2 c2) hs (Ex.refl _ _) np⟩
    rw [decide_eq_true c2]
    have x3 : Su201.execute s (.lookup m x) = (match Su201.lookupIn (s.routingTable m) x with | none => (s, Su201.error (-33)) | some y => (s, Su201.ok y.announcer [y.address, y.length])) := by
      show (if s.hasMember m = false then _ else if 256 ≤ x then _ else (match s.lookup m x with | none => (s, Su201.error (-33)) | some y => (s, Su201.ok y.announcer [y.address, y.length]))) = _
      rw [if_neg (by rw [c1]; exact Bool.noConfusion), if_neg (by omega)]
      rfl
    rw [x3] at h
    refine iteF ⟨_, rfl, _, _, _, rfl, hs.o, sF_no_routing_table _ _, _, rfl, L, s, m, rfl, hs, wf, hm, tabs, fun H1 p e1 np t1 => ⟨_, rfl, p, s.routingTable m, x, rfl, t1, table_pfx wf m, table_len wf m, e1.2 tabs, fun H2 e2 => ?_⟩⟩
    refine ⟨fun c3 => ?_, fun b r c3 hb => ?_⟩
    · rw [c3] at h
      exact ⟨_, rfl, rfl, _, rfl, iteT ⟨len1, fun z nz => done_err h rfl hs (e1.trans e2) nz⟩⟩
    · rw [c3] at h
      obtain ⟨dx, q0, ho, hq0⟩ := hb.ex e2
      refine ⟨_, rfl, rfl, _, rfl, iteF ⟨_, rfl, _, _, _, _, _, rfl, ho, T.c_Route, T.a_Route_announcer, rF_announcer _ _, _, rfl, _, _, _, _, _, rfl, ho, T.c_Route, T.a_Route_address, rF_address _ _, _, rfl, _, _, _, _, _, rfl, ho, T.c_Route, T.a_Route_length, rF_length _ _, by show 3 ≤ sizeLine; decide, fun z nz => ?_⟩⟩
      refine done_ok h rfl hs ((e1.trans e2).trans (exN nz)) (nw_ex (e1.trans e2) (.inl nz)) ?_
      rw [upd_same, resV_is]
      rfl
theorem sc_reach : FnScope ["server", "member", "table", "reached", "address"] ["server", "member"] (defScope s_reachable_addresses) := ⟨rfl, rfl, rfl, by decide +kernel, rfl, by decide +kernel, by decide +kernel⟩
theorem range_filter {p : Nat → Bool} {i : Nat} : (List.range (i + 1)).filter p = if p i = true then (List.range i).filter p ++ [i] else (List.range i).filter p := by
  rw [List.range_succ, List.filter_append, List.filter_cons]
  by_cases c : p i = true
  · rw [if_pos c, if_pos c]; rfl
  · rw [if_neg c, if_neg c, List.filter_nil, List.append_nil]
theorem range_filter_len {p : Nat → Bool} {i : Nat} : ((List.range i).filter p).length ≤ i := Nat.le_trans (List.length_filter_le ..) (by rw [List.length_range]; exact Nat.le_refl _)
theorem ok_reach (T : Txt K mg) (TB1 : TabB base mg (He.cT K tp1).1 (He.cT K tp1).2) (TB2 : TabB base mg (He.cT K tp2).1 (He.cT K tp2).2) : Ok P w K mg base 8 (He.ga K "reachable_addresses") ["server", "member"] (spOp1 K Su201.Operation.reachableAddresses) := by
  refine ok_of T.d_reachable_addresses sc_reach (fun vs H Q E h => ?_) (fun _ _ _ _ _ _ us hl => match us, hl with | [_, _], _ => rfl) (fun cdv A outer s H vs Q E hr h => ⟨_,
    pss_cons (ps_if (pt_not (pt_val (pe_mt (pv 0) T.c_RouteServer T.m_RouteServer_has_member (ok_has_member T) (hr.mono (by decide)) (pa_cons (pv 1) pa_nil)))) (pss_one (ps_ret (pe_lst (pa_cons (pe_gi rfl T.i_NO_MEMBER) pa_nil)))) pss_nil)
    (pss_cons (ps_set (i := 2) sc_reach.nd rfl (.inr rfl) (pe_mt (pv 0) T.c_RouteServer T.m_RouteServer_routing_table (ok_table T TB1) hr (pa_cons (pv 1) pa_nil)))
    (pss_cons (ps_setLc (i := 3) (own := [("address", 4)]) (g := gName 4) (tt := _) rfl sc_reach.nd rfl rfl (sw_true rfl rfl rfl (by decide +kernel)) (pi_range1 rfl T.n_range (pa_cons (pe_gi rfl T.i_ADDRESS_COUNT) pa_nil)) (blkOk_by (N := ["server", "member", "table", "reached", "address"]) (sc := defScope s_reachable_addresses) (by decide +kernel))
        (fun _ _ _ _ _ => pg_name (i := 4) sc_reach.nd rfl (Or.inl rfl)) (fun _ _ _ _ _ => pts_one (pt_cmpR op_notN (pe_cl (ok_long T TB2) (hr.mono (by decide)) rfl T.g_longest_match (pa_cons (pv 2) (pa_cons (pv 4) pa_nil))) pe_non (nomark _))) (fun _ _ _ _ _ => pv 4))
    (pss_one (ps_ret (pe_lst (pa_cons (pe_callB call_len_seq rfl T.n_len PySem.boot_len (pa_cons (pv 3) pa_nil)) pa_nil)))))), ?_⟩)
  · obtain ⟨L, s, q, m, rfl, _⟩ := h
    rfl
  · obtain ⟨L, s, q, m, rfl, hs, wf, tabs, h⟩ := h
    have x1 : s.hasMember m = false → Su201.execute s (.reachableAddresses m) = (s, Su201.error (-2)) := fun c => by
      show (if s.hasMember m = false then _ else _) = _
      rw [if_pos c]
    refine ⟨_, rfl, _, _, _, rfl, hs.o, sF_no_has_member _ _, _, rfl, L, s, m, rfl, hs, _, rfl, ?_⟩
    cases c1 : s.hasMember m
    · exact iteT ⟨len1, fun p np => done_err h (x1 c1) hs (Ex.refl _ _) np⟩
    have hm := hm_lt c1
    have x3 : Su201.execute s (.reachableAddresses m) = (s, Su201.ok ((List.range 256).filter fun x => (Su201.lookupIn (s.routingTable m) x).isSome).length []) := by
      show (if s.hasMember m = false then _ else _) = _
      rw [if_neg (by rw [c1]; exact Bool.noConfusion)]
      rfl
    refine iteF ⟨_, rfl, _, _, _, rfl, hs.o, sF_no_routing_table _ _, _, rfl, L, s, m, rfl, hs, wf, hm, tabs, fun H1 p e1 np t1 => ?_⟩
    refine ⟨_, rfl, by decide, by decide, fun D nD => ?_⟩
    refine lc_range (lo := 0) (n := 256) (fun i H' => Ex (Tl K) H1 H' ∧ H' D = some (.lst (nsV ((List.range i).filter fun x => (Su201.lookupIn (s.routingTable m) x).isSome)))) ⟨exN nD, upd_same⟩ ?_ ?_
    · rintro i H' hi ⟨e2, hD⟩
      have fle := range_filter_len (p := fun x => (Su201.lookupIn (s.routingTable m) x).isSome) (i := i)
      refine ⟨rfl, _, rfl, _, rfl, p, s.routingTable m, i, z0 i p, t1.ex e2, table_pfx wf m, table_len wf m, e2.2 (e1.2 tabs), fun H3 e3 => ?_⟩
      have hD3 := e3.at_ hD
      refine ⟨fun c => ⟨rfl, _, rfl, ?_⟩, fun b r c hb => ⟨rfl, _, rfl, ?_⟩⟩
      · refine iteF ⟨e2.trans e3, ?_⟩
        rw [range_filter, if_neg (by rw [c]; exact Bool.false_ne_true)]
        exact hD3
      · refine iteT ⟨_, rfl, _, hD3, Nat.lt_of_lt_of_le (by rw [nsV_len]; omega : _ < 257) (line_le (by decide)), ex_put (e2.trans e3) nD hD3, ?_⟩
        rw [upd_same, range_filter, if_pos (by rw [c]; rfl), nsV_app, Int.zero_add]
        rfl
    · rintro H2 ⟨e2, hD⟩
      refine ⟨_, rfl, _, _, rfl, .inl (SqL.of hD), len1, fun z nz => ?_⟩
      refine done_ok h x3 hs ((e1.trans e2).trans (exN nz)) (nw_ex (e1.trans e2) (.inl nz)) ?_
      rw [upd_same, resV_is, nsV_len]
      rfl
theorem sc_users : FnScope ["server", "member", "users", "user", "table", "route"] ["server", "member"] (defScope s_users_of) := ⟨rfl, rfl, rfl, by decide +kernel, rfl, by decide +kernel, by decide +kernel⟩
theorem ok_users (T : Txt K mg) (TB1 : TabB base mg (He.cT K tp1).1 (He.cT K tp1).2) : Ok P w K mg base 9 (He.ga K "users_of") ["server", "member"] (spOp1 K Su201.Operation.usersOf) := by
  refine ok_of T.d_users_of sc_users (fun vs H Q E h => ?_) (fun _ _ _ _ _ _ us hl => match us, hl with | [_, _], _ => rfl) (fun cdv A outer s H vs Q E hr h => ⟨_,
    pss_cons (ps_if (pt_not (pt_val (pe_mt (pv 0) T.c_RouteServer T.m_RouteServer_has_member (ok_has_member T) (hr.mono (by decide)) (pa_cons (pv 1) pa_nil)))) (pss_one (ps_ret (pe_lst (pa_cons (pe_gi rfl T.i_NO_MEMBER) pa_nil)))) pss_nil)
    (pss_cons (ps_set (i := 2) sc_users.nd rfl (.inl rfl) (pe_lst pa_nil))
    (pss_cons (ps_for PassesOwn.never rfl (pi_enum rfl T.n_enumerate (pa_cons (pe_mt0 (pv 0) T.c_RouteServer T.m_RouteServer_routing_tables (ok_tables T TB1) hr) pa_nil)) (pg_tup rfl (pgs_cons (pg_name (i := 3) sc_users.nd rfl (.inl rfl)) (pgs_cons (pg_name (i := 4) sc_users.nd rfl (.inl rfl)) pgs_nil)))
      (pss_one (ps_if (pt_cmpR op_in_seq (pv 1) (pe_lc (own := [("route", 5)]) (g := gName 5) (tt := tYes) rfl sc_users.nd (pi_list (pv 4)) (blkOk_by (N := ["server", "member", "users", "user", "table", "route"]) (sc := defScope s_users_of) (by decide +kernel))
        (fun _ _ _ _ _ => pg_name (i := 5) sc_users.nd rfl (Or.inl rfl)) (fun _ _ _ _ _ => pts_nil) (te := tFld K (tVar 5) "announcer") (fun _ _ _ _ _ => pe_fld (pv 5) rfl)) rfl)
        (pss_one (ps_expr (pe_bm PySem.F.plainAttrs_list PySem.F.slot_list_append PySem.F.type_list_append mt_append (pv 2) (pa_cons (pv 3) pa_nil)))) pss_nil)))
    (pss_one (ps_ret (pe_op op_cat (pe_lst (pa_cons (pe_callB call_len_seq rfl T.n_len PySem.boot_len (pa_cons (pv 2) pa_nil)) pa_nil)) (pv 2)))))), ?_⟩)
  · obtain ⟨L, s, q, m, rfl, _⟩ := h
    rfl
  · obtain ⟨L, s, q, m, rfl, hs, wf, tabs, h⟩ := h
    have x1 : s.hasMember m = false → Su201.execute s (.usersOf m) = (s, Su201.error (-2)) := fun c => by
      show (if s.hasMember m = false then _ else _) = _
      rw [if_pos c]
    refine ⟨_, rfl, _, _, _, rfl, hs.o, sF_no_has_member _ _, _, rfl, L, s, m, rfl, hs, _, rfl, ?_⟩
    cases c1 : s.hasMember m
    · exact iteT ⟨len1, fun p np => done_err h (x1 c1) hs (Ex.refl _ _) np⟩
    have hm := hm_lt c1
    have m6 := wf.m6
    have x3 : Su201.execute s (.usersOf m) = (s, Su201.okList ((List.range s.members.length).filter fun r => (s.routingTable r).any fun x => x.announcer == m)) := by
      show (if s.hasMember m = false then _ else _) = _
      rw [if_neg (by rw [c1]; exact Bool.noConfusion)]
    refine iteF ⟨by show 0 ≤ sizeLine; decide, fun U nU => ?_⟩
    have e0 : Ex (Tl K) H (upd H U (.lst [])) := exN nU
    refine ⟨_, rfl, _, _, _, rfl, (hs.ex e0).o, sF_no_routing_tables _ _, L, s, rfl, hs.ex e0, wf, e0.2 tabs, fun H1 p ts e1 np nts hp pts => ?_⟩
    have hU1 : H1 U = some (.lst []) := e1.at_ upd_same
    have pU : p ≠ U := fun e => np.ne upd_same (nt_lst _) e.symm
    have okU : FootOk [U] H1 := foot1 (rs := []) hU1
    have tl : ts.length = s.members.length := by rw [pts.length, List.length_map, List.length_range]
    have back : ∀ {H' : Hp}, Keep (Tl K) [U] H1 H' → Ex (Tl K) H H' := fun k => (((e0.trans e1).keep (F := [U])).trans k).ex fun f hf => .inl (by rw [List.mem_singleton.mp hf]; exact nU)
    refine ⟨p, _, rfl, SqL.of hp, ?_⟩
    refine for_it (walk_enum (K := K) (a := p) (xs := ts.map V.ref)) (fun i σ H' => Keep (Tl K) [U] H1 H' ∧ (∃ u v z, σ = [some (.ref L.a), some (nV m), some (.ref U), u, v, z]) ∧ H' U = some (.lst (nsV ((List.range i).filter fun r => (s.routingTable r).any fun x => x.announcer == m)))) ⟨Keep.refl _ _ _, ⟨_, _, _, rfl⟩, hU1⟩ (fun i σ H' _ f => SqL.of (f.1.at_ hp (not1 pU))) ?_ ?_
    · rintro i x σ H2 H3 hi ⟨k, ⟨u, v, z, rfl⟩, hU⟩ ⟨t, x1, y1, rfl, nt, rfl, q1, q2⟩
      cases q1
      have hi' : i < s.members.length := by rw [List.length_map, tl] at hi; exact hi
      have q2 : (ts.map V.ref)[i]? = some y1 := q2
      obtain ⟨c, hc, tc⟩ := tab_at pts hi'
      rw [List.getElem?_map, hc] at q2
      cases q2
      have cU : c ≠ U := fun e => (nts c (List.mem_of_getElem? hc)).ne upd_same (nt_lst _) e.symm
      have k3 : Keep (Tl K) [U] H1 (upd H2 t (.tup [V.int (i : Nat), V.ref c])) := k.trans (exN nt).keep
      obtain ⟨qs, hq, pq⟩ := tc.keepF (fun x hx => path1 wf x (table_mem hx)) (not1 cU) k3 okU
      have hU3 : upd H2 t (.tup [V.int (i : Nat), V.ref c]) U = _ := (upd_ne (ne_of_none hU nt)).trans hU
      have l20 := table_len wf i
      refine ⟨_, _, rfl, SqT.of upd_same, rfl, _, _, rfl, _, _, rfl, rfl, ?_⟩
      refine ⟨_, rfl, _, rfl, _, rfl, ⟨_, SqL.of hq⟩, fun D nD => ?_⟩
      refine lc_list (K := K) (a := c) (xs := qs.map V.ref) (AnnI D (upd H2 t (.tup [V.int (i : Nat), V.ref c])) (s.routingTable i)) ⟨same_new nD, upd_same⟩ (fun j H' _ f => SqL.of (f.1 _ _ hq)) ?_ ?_
      · intro j x H' hx f
        obtain ⟨b, r, rfl, hr', dx, q0, ho, hq0⟩ := rs_at pq hx
        exact ⟨rfl, yes_of ⟨_, rfl, _, _, _, _, _, rfl, f.1 _ _ ho, T.c_Route, T.a_Route_announcer, rF_announcer _ _, ann_step f nD l20 hr'⟩⟩
      · rintro H4 ⟨s4, hD⟩
        rw [sqlen pq, List.take_length] at hD
        have hU4 := s4 _ _ hU3
        have k4 : Keep (Tl K) [U] H1 H4 := k3.trans (exS s4).keep
        refine ⟨_, _, rfl, .inl (SqL.of hD), rfl, flat_nats _, inV (nV m) (nsV ((s.routingTable i).map (·.announcer))), rfl, ?_⟩
        have ie : inV (nV m) (nsV ((s.routingTable i).map (·.announcer))) = (s.routingTable i).any fun x => x.announcer == m := by
          rw [inV_nat, List.any_map]
          rfl
        have fle := range_filter_len (p := fun r => (s.routingTable r).any fun x => x.announcer == m) (i := i)
        refine (show (if inV (nV m) (nsV ((s.routingTable i).map (·.announcer))) = true then _ else _) from ?_)
        refine if_of (fun c => ?_) (fun c => ?_)
        · refine ⟨_, rfl, .inl ⟨rfl, _, SqL.of hU4⟩, _, rfl, _, _, _, rfl, rfl, hU4, line_lt (by rw [nsV_len]; omega), k4.trans (Keep.lst hU4), ⟨_, _, _, rfl⟩, ?_⟩
          rw [upd_same, range_filter, if_pos (by rw [← ie]; exact c), nsV_app]
          rfl
        · refine ⟨k4, ⟨_, _, _, rfl⟩, ?_⟩
          rw [range_filter, if_neg (by rw [← ie, c]; exact Bool.false_ne_true)]
          exact hU4
    · rintro σ H2 ⟨k, ⟨u, v, z, rfl⟩, hU⟩
      rw [List.length_map, tl] at hU
      have fle := range_filter_len (p := fun r => (s.routingTable r).any fun x => x.announcer == m) (i := s.members.length)
      refine ⟨_, rfl, _, _, rfl, .inl (SqL.of hU), len1, fun t nt => ⟨_, rfl, t, U, _, _, rfl, rfl, upd_same, (upd_ne (ne_of_none hU nt)).trans hU, line_le (by show 1 + (nsV _).length ≤ 10000; rw [nsV_len]; omega), fun z nz => ?_⟩⟩
      refine done_ok h x3 hs (((back k).trans (exN nt)).trans (exN nz)) (nw_ex ((back k).trans (exN nt)) (.inl nz)) ?_
      rw [upd_same, resV_okList, nsV_len]
end
end Nhp
/-! a state after a change -/
namespace Nhp
open PySem PySem.Spec PyProof.Rows L2 LamX NdefX
theorem seq_at {i n : Nat} (h : i < n) : seqIndex? (i : Int) n = some i := by
  unfold seqIndex?
  have e : (if (i : Int) < 0 then (i : Int) + n else (i : Int)) = i := if_neg (by omega)
  simp only [e]
  rw [if_pos (by simp; omega)]
  simp
theorem ixN_at {i n : Nat} (h : i < n) : ixN n (i : Int) = some i := by
  unfold ixN
  simp [h]
theorem paired_of {α β : Type} {R : α → β → Prop} : ∀ {l : List α} {m : List β}, l.length = m.length → (∀ (i : Nat) a b, l[i]? = some a → m[i]? = some b → R a b) → Paired R l m
  | [], [], _, _ => .nil
  | [], _ :: _, h, _ => by cases h
  | _ :: _, [], h, _ => by cases h
  | a :: l, b :: m, h, k => .cons (k 0 a b rfl rfl) (paired_of (Nat.succ.inj h) fun i x y hx hy => k (i + 1) x y hx hy)
theorem paired_at {α β : Type} {R : α → β → Prop} {l : List α} {m : List β} (h : Paired R l m) {i : Nat} {a : α} {b : β} (ha : l[i]? = some a) (hb : m[i]? = some b) : R a b := by
  obtain ⟨y, hy, r⟩ := paired_got h ha
  rw [hb] at hy
  cases hy
  exact r
theorem nodup_bound : ∀ {n : Nat} {l : List Nat}, l.Nodup → (∀ x ∈ l, x < n) → l.length ≤ n
  | 0, l, _, h => by
    cases l with
    | nil => exact Nat.le_refl _
    | cons x l => exact absurd (h x (List.mem_cons_self ..)) (Nat.not_lt_zero _)
  | n + 1, l, nd, h => by
    by_cases c : n ∈ l
    · have h1 := List.length_erase_of_mem c
      have h2 := nodup_bound (n := n) (l := l.erase n) (nd.erase n) fun x hx => by
        obtain ⟨h3, h4⟩ := (nd.mem_erase_iff).mp hx
        have := h x h4
        omega
      have : 0 < l.length := List.length_pos_of_mem c
      omega
    · have := nodup_bound (n := n) (l := l) nd fun x hx => by
        have h3 := h x hx
        have h4 : x ≠ n := fun e => c (e ▸ hx)
        omega
      omega
theorem kvs_len {kvs : List (Key × V)} (nd : (kvs.map (·.1)).Nodup) (h : ∀ q ∈ kvs, ∃ n : Nat, n < 6 ∧ q.1 = Sum.inl (n : Int)) : kvs.length ≤ 6 := by
  let f : Key × V → Nat := fun q => match q.1 with | .inl i => i.toNat | .inr _ => 0
  have e : (kvs.map f).Nodup := by
    rw [List.Nodup, List.pairwise_map]
    have nd' : kvs.Pairwise (fun q r => q.1 ≠ r.1) := List.pairwise_map.mp nd
    refine nd'.imp_of_mem fun {q r} hq hr ne e => ?_
    obtain ⟨n, _, e1⟩ := h q hq
    obtain ⟨m, _, e2⟩ := h r hr
    refine ne ?_
    have e : (match q.1 with | .inl i => i.toNat | .inr _ => 0) = (match r.1 with | .inl i => i.toNat | .inr _ => 0) := e
    rw [e1, e2] at e ⊢
    have e : (n : Int).toNat = (m : Int).toNat := e
    rw [Int.toNat_natCast, Int.toNat_natCast] at e
    rw [e]
  have := nodup_bound (n := 6) e fun x hx => by
    obtain ⟨q, hq, rfl⟩ := List.mem_map.mp hx
    obtain ⟨n, hn, e1⟩ := h q hq
    show (match q.1 with | .inl i => i.toNat | .inr _ => 0) < 6
    rw [e1]
    show (n : Int).toNat < 6
    rw [Int.toNat_natCast]
    exact hn
  rwa [List.length_map] at this
theorem nd_put {kvs : List (Key × V)} {k : Key} (v : V) (nd : (kvs.map (·.1)).Nodup) : ((putK kvs k v).map (·.1)).Nodup := by
  cases e : valV kvs k with
  | none => exact nd_putK v nd e
  | some x =>
    unfold putK
    rw [if_pos (by rw [valV_any, e]; rfl), List.map_map]
    have : (fun kv : Key × V => kv.1) ∘ (fun kv : Key × V => if kv.1 = k then (kv.1, v) else kv) = fun kv => kv.1 := by
      funext kv
      show (if kv.1 = k then (kv.1, v) else kv).1 = kv.1
      split <;> rfl
    rw [this]
    exact nd
theorem mem_put {kvs : List (Key × V)} {k : Key} {v : V} {P : Key → Prop} (h : ∀ q ∈ kvs, P q.1) (hk : P k) : ∀ q ∈ putK kvs k v, P q.1 := by
  intro q hq
  unfold putK at hq
  split at hq
  · obtain ⟨r, hr, rfl⟩ := List.mem_map.mp hq
    have : (if r.1 = k then (r.1, v) else r).1 = r.1 := by split <;> rfl
    rw [this]
    exact h r hr
  · rcases List.mem_append.mp hq with hq | hq
    · exact h q hq
    · rw [List.mem_singleton.mp hq]
      exact hk
theorem PolAt.put {H : Hp} {d : Addr} {dflt : Nat} {f g : Nat → Nat} {kvs : List (Key × V)} {n v : Nat} (hn : n < 6) (nd : (kvs.map (·.1)).Nodup) (ks : ∀ q ∈ kvs, ∃ n : Nat, n < 6 ∧ q.1 = Sum.inl (n : Int)) (hv : ∀ m : Nat, (valV kvs (Sum.inl (m : Int))).getD (nV dflt) = nV (f m))
    (h : H d = some (.dK (putK kvs (Sum.inl (n : Int)) (nV v)))) (hg : ∀ m, g m = if m = n then v else f m) : PolAt H d dflt g := by
  refine ⟨_, h, nd_put _ nd, fun q hq => mem_put (P := fun k => ∃ n : Nat, n < 6 ∧ k = Sum.inl (n : Int)) ks ⟨n, hn, rfl⟩ q hq, fun m => ?_⟩
  rw [valV_put, hg]
  by_cases e : m = n
  · subst e
    rw [if_pos rfl, if_pos rfl]
    rfl
  · rw [if_neg e, if_neg (fun z => e (by have := Sum.inl.inj z; omega))]
    exact hv m
theorem PolAt.congr {H : Hp} {d : Addr} {dflt : Nat} {f g : Nat → Nat} (h : PolAt H d dflt f) (e : ∀ n, f n = g n) : PolAt H d dflt g := by
  obtain ⟨kvs, h1, h2, h3, h4⟩ := h
  exact ⟨kvs, h1, h2, h3, fun n => by rw [h4, e]⟩
section
variable {T : List (Addr × Str)} {F : List Addr} {H H1 H2 H3 H' : Hp} {K : PySem.W.Frag}
/-- new routes in the same list -/
theorem srv_routes {L : SA} {s : Su201.RouteServer} {rs' : List Addr} {xs' : List Su201.Route} (hs : SrvAt K H2 L s) (k : Keep T [L.rl] H2 H3) (hr : H3 L.rl = some (.lst (rs'.map V.ref))) (rou : Paired (RouAt (cR K) H3) rs' xs') :
    SrvAt K H3 { L with rs := rs' } { s with routes := xs' } := by
  have ok : FootOk [L.rl] H2 := foot1 hs.rl
  refine ⟨k.at_ hs.o (not1 hs.a_rl), k.at_ hs.ml (not1 hs.ne), hr, (show Paired (MemAt (cM K) H3) L.ms s.members from mems_keep hs k ok fun d hd => not1 fun e => ?_), rou, hs.ne, hs.nd⟩
  obtain ⟨kvs, h⟩ := hs.ds hd
  rw [e, hs.rl] at h
  cases h
theorem tabs_keep {ts : List Addr} {n : Nat} {s : Su201.RouteServer} (wf : Wf s) (h : Paired (TabAt (cR K) H2) ts ((List.range n).map s.routingTable)) (nw : ∀ t ∈ ts, Nw H1 t) (hF : ∀ f ∈ F, ∃ o, H1 f = some o ∧ NT o) (k : Keep T F H2 H3) (ok : FootOk F H2) :
    Paired (TabAt (cR K) H3) ts ((List.range n).map s.routingTable) :=
  paired_mem h fun t xs ht hx z => by
    obtain ⟨j, _, rfl⟩ := List.mem_map.mp hx
    refine z.keepF (fun x hx => path1 wf x (table_mem hx)) (fun m => ?_) k ok
    obtain ⟨o, ho, n⟩ := hF t m
    exact (nw t ht).ne ho n rfl
theorem paired_erase {α β : Type} {R : α → β → Prop} : ∀ {l : List α} {m : List β} (i : Nat), Paired R l m → Paired R (l.eraseIdx i) (m.eraseIdx i)
  | _, _, _, .nil => by simpa using Paired.nil
  | _, _, 0, .cons h t => t
  | _, _, i + 1, .cons h t => .cons h (paired_erase i t)
theorem paired_set {α β : Type} {R : α → β → Prop} {x : α} {y : β} (h : R x y) : ∀ {l : List α} {m : List β} (i : Nat), Paired R l m → Paired R (l.set i x) (m.set i y)
  | _, _, _, .nil => .nil
  | _, _, 0, .cons _ t => .cons h t
  | _, _, i + 1, .cons r t => .cons r (paired_set h i t)
theorem foot_rs {L : SA} {rs : List Addr} : Nhp.foot { L with rs := rs } = Nhp.foot L := rfl
/-- the dicts of two members are apart, and those of one -/
theorem ds_apart {ms : List MA} (nd : (dsOf ms).Nodup) {i j : Nat} {x y : MA} (hx : ms[i]? = some x) (hy : ms[j]? = some y) (ne : i ≠ j) : ∀ d ∈ [x.d1, x.d2, x.d3], ∀ e ∈ [y.d1, y.d2, y.d3], d ≠ e := by
  have h := (List.pairwise_flatMap.mp nd).2
  have key : ∀ {i j : Nat} {x y : MA}, i < j → ms[i]? = some x → ms[j]? = some y → ∀ d ∈ [x.d1, x.d2, x.d3], ∀ e ∈ [y.d1, y.d2, y.d3], d ≠ e := fun {i j x y} hlt hx hy => by
    obtain ⟨hi, ex⟩ := List.getElem?_eq_some_iff.mp hx
    obtain ⟨hj, ey⟩ := List.getElem?_eq_some_iff.mp hy
    have := List.pairwise_iff_getElem.mp h i j hi hj hlt
    rw [ex, ey] at this
    exact this
  rcases Nat.lt_or_gt_of_ne ne with hlt | hlt
  · exact key hlt hx hy
  · exact fun d hd e he q => key hlt hy hx e he d hd q.symm
theorem ds_self {ms : List MA} (nd : (dsOf ms).Nodup) {i : Nat} {x : MA} (hx : ms[i]? = some x) : x.d1 ≠ x.d2 ∧ x.d1 ≠ x.d3 ∧ x.d2 ≠ x.d3 := by
  have h := (List.pairwise_flatMap.mp nd).1 x (List.mem_of_getElem? hx)
  simp only [List.pairwise_cons, List.mem_cons, List.not_mem_nil, or_false, forall_eq_or_imp, forall_eq] at h
  exact ⟨h.1.1, h.1.2, h.2.1⟩
/-- one member changed in one dict -/
theorem srv_member {L : SA} {s : Su201.RouteServer} {m : Nat} {x : MA} {d : Addr} {y : Su201.Member} (wf : Wf s) (hs : SrvAt K H2 L s) (hm : m < s.members.length) (hx : L.ms[m]? = some x) (hd : d ∈ [x.d1, x.d2, x.d3]) (k : Keep T [d] H2 H3) (hy : MemAt (cM K) H3 x y) : SrvAt K H3 L (s.setMember m y) := by
  have dm : d ∈ dsOf L.ms := List.mem_flatMap.mpr ⟨x, List.mem_of_getElem? hx, hd⟩
  obtain ⟨kvs, hk⟩ := hs.ds dm
  have ok : FootOk [d] H2 := fun f hf => by rw [List.mem_singleton.mp hf]; exact ⟨_, hk, .inr (.inl ⟨_, rfl⟩)⟩
  have ne : ∀ {b : Addr} {o : HO}, H2 b = some o → (∀ kvs : List (Key × V), o ≠ .dK kvs) → b ∉ [d] := fun {b o} hb n => not1 fun e => by
    rw [e, hk] at hb
    exact n _ (Option.some.inj hb).symm
  refine ⟨k.at_ hs.o (ne hs.o (by intro _ z; cases z)), k.at_ hs.ml (ne hs.ml (by intro _ z; cases z)), k.at_ hs.rl (ne hs.rl (by intro _ z; cases z)), ?_, rous_keep hs.rou (fun r hr => path1 wf r hr) k ok, hs.ne, hs.nd⟩
  show Paired _ L.ms (s.members.set m y)
  refine paired_of (by rw [List.length_set, hs.mem.length]) fun i a b ha hb => ?_
  rw [List.getElem?_set] at hb
  by_cases e : m = i
  · subst e
    rw [if_pos rfl, if_pos hm] at hb
    cases hb
    rw [hx] at ha
    cases ha
    exact hy
  · rw [if_neg e] at hb
    have z := paired_at hs.mem ha hb
    have ap := ds_apart hs.nd ha hx (fun q => e q.symm)
    refine z.keep k (not_foot ok z.o pf_not_mem) (not1 (ap _ (by simp) _ hd)) (not1 (ap _ (by simp) _ hd)) (not1 (ap _ (by simp) _ hd))
end
end Nhp
/-! changes.py: add_member, withdraw, withdraw_all -/
namespace Nhp
open PySem PySem.Spec PyProof.Rows L2 LamX NdefX
def spM1 (K : PySem.W.Frag) (F : SA → List Addr) (op : Nat → Su201.Operation) : Sp := fun vs H Q _ => ∃ (L : SA) (s : Su201.RouteServer) (q : Addr) (a : Nat), vs = [.ref L.a, nV a] ∧ SrvAt K H L s ∧ Wf s ∧ Tabs (Tl K) H ∧ Done K (F L) L q (Su201.execute s (op a)) H Q
def spM3 (K : PySem.W.Frag) (F : SA → List Addr) (op : Nat → Nat → Nat → Su201.Operation) : Sp := fun vs H Q _ => ∃ (L : SA) (s : Su201.RouteServer) (q : Addr) (a b c : Nat), vs = [.ref L.a, nV a, nV b, nV c] ∧ SrvAt K H L s ∧ Wf s ∧ Tabs (Tl K) H ∧ Done K (F L) L q (Su201.execute s (op a b c)) H Q
section
variable {P : Program} {w : World} {K : PySem.W.Frag} {mg : Str → Option Value} {base : Heap}
theorem sc_addm : FnScope ["server", "asn"] ["server", "asn"] (defScope s_add_member) := ⟨rfl, rfl, rfl, by decide +kernel, rfl, by decide +kernel, by decide +kernel⟩
theorem ok_addm (T : Txt K mg) : Ok P w K mg base 3 (He.ga K "add_member") ["server", "asn"] (spM1 K (fun L => [L.ml]) Su201.Operation.addMember) := by
  refine ok_of T.d_add_member sc_addm (fun vs H Q E h => ?_) (fun _ _ _ _ _ _ us hl => match us, hl with | [_, _], _ => rfl) (fun cdv A outer s H vs Q E hr h => ⟨_,
    pss_cons (ps_if (pt_not (pt_val (pe_cl (ok_is_asn T) (hr.mono (by decide)) rfl T.g_is_asn (pa_cons (pv 1) pa_nil)))) (pss_one (ps_ret (pe_lst (pa_cons (pe_gi rfl T.i_INVALID) pa_nil)))) pss_nil)
    (pss_cons (ps_if (pt_val (pe_mt (pv 0) T.c_RouteServer T.m_RouteServer_has_asn (ok_has_asn T) (hr.mono (by decide)) (pa_cons (pv 1) pa_nil))) (pss_one (ps_ret (pe_lst (pa_cons (pe_gi rfl T.i_ASN_IN_USE) pa_nil)))) pss_nil)
    (pss_cons (ps_if (pt_cmpR op_ge (pe_callB call_len_seq rfl T.n_len PySem.boot_len (pa_cons (pe_fld (pv 0) rfl) pa_nil)) (pe_gi rfl T.i_MAX_MEMBERS) (nomark _)) (pss_one (ps_ret (pe_lst (pa_cons (pe_gi rfl T.i_LIMIT_REACHED) pa_nil)))) pss_nil)
    (pss_cons (ps_expr (pe_bm PySem.F.plainAttrs_list PySem.F.slot_list_append PySem.F.type_list_append mt_append (pe_fld (pv 0) rfl) (pa_cons (pe_mk T.k_Member (ok_member_init T) hr rfl T.g_Member (pa_cons (pv 1) pa_nil)) pa_nil)))
    (pss_one (ps_ret (pe_lst (pa_cons (pe_op op_sub (pe_callB call_len_seq rfl T.n_len PySem.boot_len (pa_cons (pe_fld (pv 0) rfl) pa_nil)) pe_int) pa_nil))))))), ?_⟩)
  · obtain ⟨L, s, q, n, rfl, _⟩ := h
    rfl
  · obtain ⟨L, s, q, n, rfl, hs, wf, tabs, h⟩ := h
    have m6 := wf.m6
    have ex : Su201.execute s (.addMember n) = (if n = 0 ∨ 9999 < n then (s, Su201.error (-22)) else if s.members.any (fun x => x.asn == n) = true then (s, Su201.error (-17)) else if 6 ≤ s.members.length then (s, Su201.error (-28)) else ({ s with members := s.members ++ [⟨n, [], [], []⟩] }, Su201.ok s.members.length [])) := rfl
    rw [ex] at h
    refine ⟨_, rfl, n, rfl, _, rfl, ?_⟩
    have as : (decide (1 ≤ n) && decide (n ≤ 9999)) = !decide (n = 0 ∨ 9999 < n) := by
      rw [Bool.eq_iff_iff, Bool.and_eq_true, decide_eq_true_eq, decide_eq_true_eq, Bool.not_eq_true', decide_eq_false_iff_not]
      omega
    rw [as]
    by_cases c1 : n = 0 ∨ 9999 < n
    · rw [decide_eq_true c1]
      rw [if_pos c1] at h
      exact iteT ⟨len1, fun p np => done_err h rfl hs (Ex.refl _ _) np⟩
    rw [decide_eq_false c1]
    rw [if_neg c1] at h
    refine iteF ⟨_, rfl, _, _, _, rfl, hs.o, sF_no_has_asn _ _, _, rfl, L, s, n, rfl, hs, m6, fun H1 s1 => ⟨_, rfl, ?_⟩⟩
    have e1 : Ex (Tl K) H H1 := exS s1
    have hs1 := hs.ex e1
    cases c2 : s.members.any (fun x => x.asn == n)
    rotate_left
    · rw [c2, if_pos rfl] at h
      exact iteT ⟨len1, fun p np => done_err h rfl hs e1 np⟩
    rw [c2, if_neg Bool.false_ne_true] at h
    have hl : (L.ms.map fun x => V.ref x.a).length = s.members.length := by rw [List.length_map, hs.mem.length]
    refine iteF ⟨_, rfl, _, _, _, _, _, rfl, hs1.o, T.c_RouteServer, T.a_RouteServer_members, sF_members _ _, _, _, rfl, .inl (SqL.of hs1.ml), _, _, rfl, rfl, _, rfl, ?_⟩
    by_cases c3 : 6 ≤ s.members.length
    · rw [if_pos c3] at h
      rw [decide_eq_true (show ((L.ms.map fun x => V.ref x.a).length : Int) ≥ 6 by rw [hl]; omega)]
      exact iteT ⟨len1, fun p np => done_err h rfl hs e1 np⟩
    rw [if_neg c3] at h
    rw [decide_eq_false (show ¬ ((L.ms.map fun x => V.ref x.a).length : Int) ≥ 6 by rw [hl]; omega)]
    refine iteF ⟨_, rfl, _, _, _, _, _, rfl, hs1.o, T.c_RouteServer, T.a_RouteServer_members, sF_members _ _, .inl ⟨rfl, _, SqL.of hs1.ml⟩, _, rfl, fun x dx nx nd ne => ?_⟩
    obtain ⟨e2, x2⟩ := mk_ex (T := Tl K) (o := .ins (cM K) dx []) (u := .own x) nx nd ne
    refine ⟨x, dx, n, rfl, x2, fun H3 d1 d2 d3 k3 w1 w2 w3 n12 n13 n23 hx h1 h2 h3 => ⟨rfl, ?_⟩⟩
    have e3 : Ex (Tl K) H1 H3 := mk_done e2 nx k3
    have hs3 := hs1.ex e3
    have eH := e1.trans e3
    have nw1 := nw_ex (e1.trans e2) w1
    have nw2 := nw_ex (e1.trans e2) w2
    have nw3 := nw_ex (e1.trans e2) w3
    refine ⟨_, _, _, rfl, rfl, hs3.ml, line_lt (by omega), ?_⟩
    have k4 : Keep (Tl K) [L.ml] H3 (upd H3 L.ml (.lst ((L.ms.map fun x => V.ref x.a) ++ [V.ref x]))) := Keep.lst hs3.ml
    have okF : FootOk [L.ml] H3 := fun f hf => by rw [List.mem_singleton.mp hf]; exact ⟨_, hs3.ml, .inl ⟨L.ms.map (·.a), by rw [List.map_map]; rfl⟩⟩
    have nds : ∀ d ∈ dsOf L.ms, d ∉ [L.ml] := fun d hd => not1 fun e => by
      obtain ⟨kvs, q⟩ := hs3.ds hd
      rw [e, hs3.ml] at q
      cases q
    have dml : ∀ {d : Addr}, H3 d = some (.dK []) → upd H3 L.ml (.lst ((L.ms.map fun x => V.ref x.a) ++ [V.ref x])) d = some (.dK []) := fun {d} q => (upd_ne (ne_of q hs3.ml (by intro z; cases z))).trans q
    have pol : ∀ {d : Addr} {dflt : Nat} {f : Nat → Nat}, H3 d = some (.dK []) → (∀ n, f n = dflt) → PolAt (upd H3 L.ml (.lst ((L.ms.map fun x => V.ref x.a) ++ [V.ref x]))) d dflt f := fun {d dflt f} q hf => ⟨[], dml q, List.Pairwise.nil, fun _ z => (by cases z), fun n => by rw [hf]; rfl⟩
    have hs4 : SrvAt K (upd H3 L.ml (.lst ((L.ms.map fun x => V.ref x.a) ++ [V.ref x]))) { L with ms := L.ms ++ [⟨x, dx, d1, d2, d3⟩] } { s with members := s.members ++ [⟨n, [], [], []⟩] } := by
      refine ⟨k4.at_ hs3.o (not1 hs3.a_ml), ?_, k4.at_ hs3.rl (not1 fun e => hs3.ne e.symm), ?_, (show Paired (RouAt (cR K) _) L.rs s.routes from rous_keep hs3.rou (path1 wf) k4 okF), hs3.ne, ?_⟩
      · show upd H3 L.ml _ L.ml = _
        rw [upd_same, List.map_append]
        rfl
      · refine paired_snoc (mems_keep hs3 k4 okF nds) ⟨(upd_ne (ne_of hx hs3.ml (by intro z; cases z))).trans hx, pol h1 fun _ => rfl, pol h2 fun _ => rfl, pol h3 fun _ => rfl⟩
      · show (dsOf (L.ms ++ [_])).Nodup
        unfold dsOf
        rw [List.flatMap_append]
        refine List.nodup_append.mpr ⟨hs3.nd, ?_, fun a ha b hb e => ?_⟩
        · simp [n12, n13, n23]
        · simp only [List.flatMap_cons, List.flatMap_nil, List.append_nil, List.mem_cons, List.not_mem_nil, or_false] at hb
          obtain ⟨kvs, q⟩ := hs.ds ha
          rcases hb with rfl | rfl | rfl
          · exact nw1.ne q (nt_dk _) e
          · exact nw2.ne q (nt_dk _) e
          · exact nw3.ne q (nt_dk _) e
    have kk : Keep (Tl K) [L.ml] H (upd H3 L.ml (.lst ((L.ms.map fun x => V.ref x.a) ++ [V.ref x]))) := eH.keep.trans k4
    refine ⟨_, rfl, _, _, _, _, _, rfl, hs4.o, T.c_RouteServer, T.a_RouteServer_members, sF_members _ _, _, _, rfl, .inl (SqL.of hs4.ml), _, _, rfl, rfl, len1, fun p np => ?_⟩
    have hs5 := hs4.ex (exN (T := Tl K) (o := .lst [V.int (((({ L with ms := L.ms ++ [⟨x, dx, d1, d2, d3⟩] } : SA).ms.map fun x => V.ref x.a).length : Int) - 1)]) np)
    refine h _ { L with ms := L.ms ++ [⟨x, dx, d1, d2, d3⟩] } p (kk.trans (exN np).keep) rfl (fun b hb => ?_) (fun a ha => .inl ha) hs5 (nw_keep kk (.inl np)) ?_
    · have hb : b ∈ L.a :: L.ml :: L.rl :: dsOf (L.ms ++ [⟨x, dx, d1, d2, d3⟩]) := hb
      unfold dsOf at hb
      rw [List.flatMap_append] at hb
      simp only [List.flatMap_cons, List.flatMap_nil, List.append_nil, List.mem_cons, List.mem_append, List.not_mem_nil, or_false] at hb
      rcases hb with rfl | rfl | rfl | hb | rfl | rfl | rfl
      · exact .inl (List.mem_cons_self ..)
      · exact .inl (List.mem_cons_of_mem _ (List.mem_cons_self ..))
      · exact .inl (List.mem_cons_of_mem _ (List.mem_cons_of_mem _ (List.mem_cons_self ..)))
      · exact .inl (List.mem_cons_of_mem _ (List.mem_cons_of_mem _ (List.mem_cons_of_mem _ hb)))
      · exact .inr nw1
      · exact .inr nw2
      · exact .inr nw3
    · rw [upd_same, resV_is]
      have : (((({ L with ms := L.ms ++ [⟨x, dx, d1, d2, d3⟩] } : SA).ms.map fun x => V.ref x.a).length : Int) - 1) = (s.members.length : Int) := by
        show (((L.ms ++ [(⟨x, dx, d1, d2, d3⟩ : MA)]).map fun x => V.ref x.a).length : Int) - 1 = _
        rw [List.length_map, List.length_append, hs.mem.length]
        simp
      exact congrArg (fun z => some (HO.lst [V.int z])) this
theorem erase_map {α β : Type} (f : α → β) : ∀ (l : List α) (i : Nat), (l.map f).eraseIdx i = (l.eraseIdx i).map f
  | [], _ => by simp
  | a :: l, 0 => rfl
  | a :: l, i + 1 => by
    rw [List.map_cons, List.eraseIdx_cons_succ, List.eraseIdx_cons_succ, List.map_cons, erase_map f l i]
theorem upd_len {s : Su201.RouteServer} {xs : List Su201.Route} : ({ s with routes := xs } : Su201.RouteServer).members.length = s.members.length := rfl
theorem sc_withdraw : FnScope ["server", "member", "address", "length", "place", "tables_before"] ["server", "member", "address", "length"] (defScope s_withdraw) := ⟨rfl, rfl, rfl, by decide +kernel, rfl, by decide +kernel, by decide +kernel⟩
theorem ok_withdraw (T : Txt K mg) (TB : TabB base mg (He.cT K tp1).1 (He.cT K tp1).2) : Ok P w K mg base 10 (He.ga K "withdraw") ["server", "member", "address", "length"] (spM3 K (fun L => [L.rl]) Su201.Operation.withdraw) := by
  refine ok_of T.d_withdraw sc_withdraw (fun vs H Q E h => ?_) (fun _ _ _ _ _ _ us hl => match us, hl with | [_, _, _, _], _ => rfl) (fun cdv A outer s H vs Q E hr h => ⟨_,
    pss_cons (ps_if (pt_not (pt_val (pe_mt (pv 0) T.c_RouteServer T.m_RouteServer_has_member (ok_has_member T) (hr.mono (by decide)) (pa_cons (pv 1) pa_nil)))) (pss_one (ps_ret (pe_lst (pa_cons (pe_gi rfl T.i_NO_MEMBER) pa_nil)))) pss_nil)
    (pss_cons (ps_if (pt_not (pt_val (pe_cl (ok_is_prefix T) (hr.mono (by decide)) rfl T.g_is_prefix (pa_cons (pv 2) (pa_cons (pv 3) pa_nil))))) (pss_one (ps_ret (pe_lst (pa_cons (pe_gi rfl T.i_INVALID) pa_nil)))) pss_nil)
    (pss_cons (ps_set (i := 4) sc_withdraw.nd rfl (.inl rfl) (pe_mt (pv 0) T.c_RouteServer T.m_RouteServer_place_of_route (ok_place T) (hr.mono (by decide)) (pa_cons (pv 1) (pa_cons (pv 2) (pa_cons (pv 3) pa_nil)))))
    (pss_cons (ps_if (pt_cmpR op_isN (pv 4) pe_non (nomark _)) (pss_one (ps_ret (pe_lst (pa_cons (pe_gi rfl T.i_NO_ROUTE) pa_nil)))) pss_nil)
    (pss_cons (ps_set (i := 5) sc_withdraw.nd rfl (.inl rfl) (pe_mt0 (pv 0) T.c_RouteServer T.m_RouteServer_routing_tables (ok_tables T TB) (hr.mono (by decide))))
    (pss_cons (ps_expr (pe_bm PySem.F.plainAttrs_list PySem.F.slot_list_pop PySem.F.type_list_pop mt_popAt (pe_fld (pv 0) rfl) (pa_cons (pv 4) pa_nil)))
    (pss_one (ps_ret (pe_cl (ok_changed T TB) hr rfl T.g_changed_since (pa_cons (pv 0) (pa_cons (pv 5) pa_nil)))))))))), ?_⟩)
  · obtain ⟨L, s, q, m, a, l, rfl, _⟩ := h
    rfl
  · obtain ⟨L, s, q, m, a, l, rfl, hs, wf, tabs, h⟩ := h
    have x1 : s.hasMember m = false → Su201.execute s (.withdraw m a l) = (s, Su201.error (-2)) := fun c => by
      show (if s.hasMember m = false then _ else _) = _
      rw [if_pos c]
    refine ⟨_, rfl, _, _, _, rfl, hs.o, sF_no_has_member _ _, _, rfl, L, s, m, rfl, hs, _, rfl, ?_⟩
    cases c1 : s.hasMember m
    · exact iteT ⟨len1, fun p np => done_err h (x1 c1) hs (Ex.refl _ _) np⟩
    have hm := hm_lt c1
    have x2 : Su201.isPrefix a l = false → Su201.execute s (.withdraw m a l) = (s, Su201.error (-22)) := fun c => by
      show (if s.hasMember m = false then _ else if Su201.isPrefix a l = false then _ else _) = _
      rw [if_neg (by rw [c1]; exact Bool.noConfusion), if_pos c]
    refine iteF ⟨_, rfl, _, rfl, a, l, rfl, _, rfl, ?_⟩
    cases c2 : Su201.isPrefix a l
    · exact iteT ⟨len1, fun p np => done_err h (x2 c2) hs (Ex.refl _ _) np⟩
    have r20 := wf.r20
    have ex : Su201.execute s (.withdraw m a l) = (match s.findRoute m a l with | none => (s, Su201.error (-6)) | some x => s.update (s.withoutRoute x)) := by
      show (if s.hasMember m = false then _ else if Su201.isPrefix a l = false then _ else (match s.findRoute m a l with | none => (s, Su201.error (-6)) | some x => s.update (s.withoutRoute x))) = _
      rw [if_neg (by rw [c1]; exact Bool.noConfusion), if_neg (by rw [c2]; exact Bool.noConfusion)]
    rw [ex] at h
    refine iteF ⟨_, rfl, _, _, _, rfl, hs.o, sF_no_place_of_route _ _, _, rfl, _, rfl, _, rfl, L, s, m, a, l, rfl, hs, fun H1 s1 => ?_⟩
    have e1 : Ex (Tl K) H H1 := exS s1
    refine ⟨fun no => ?_, fun i x hi hk => ?_⟩
    · rw [find_none no] at h
      exact ⟨_, rfl, rfl, _, rfl, iteT ⟨len1, fun z nz => done_err h rfl hs e1 nz⟩⟩
    · rw [find_mem wf (List.mem_of_getElem? hi) hk] at h
      have hs1 := hs.ex e1
      have wr : s.withoutRoute x = { s with routes := s.routes.eraseIdx i } := by
        unfold Su201.RouteServer.withoutRoute
        rw [filter_erase (nodup_routes wf) hi]
      have h : Done K [L.rl] L q ({ s with routes := s.routes.eraseIdx i }, Su201.okList (s.changedMembers { s with routes := s.routes.eraseIdx i })) H Q := by rw [← wr]; exact h
      refine ⟨_, rfl, rfl, _, rfl, iteF ?_⟩
      refine ⟨_, rfl, _, _, _, rfl, hs1.o, sF_no_routing_tables _ _, L, s, rfl, hs1, wf, e1.2 tabs, fun H2 tb ts e2 ntb nts htb pts => ?_⟩
      have hs2 := hs1.ex e2
      have hil := at_len hi
      obtain ⟨b, hb, rb⟩ := paired_get hs.rou hi
      refine ⟨_, rfl, _, _, _, _, _, rfl, hs2.o, T.c_RouteServer, T.a_RouteServer_routes, sF_routes _ _, .inl ⟨rfl, _, SqL.of hs2.rl⟩, _, rfl, _, _, _, i, V.ref b, rfl, rfl, hs2.rl, by omega, by omega, seq_at (by rw [sqlen hs2.rou]; exact hil), by rw [List.getElem?_map, hb]; rfl, ?_⟩
      have k3 : Keep (Tl K) [L.rl] H2 (upd H2 L.rl (.lst ((L.rs.map V.ref).eraseIdx i))) := Keep.lst hs2.rl
      have okF : FootOk [L.rl] H2 := foot1 hs2.rl
      have hs3 := srv_routes (rs' := L.rs.eraseIdx i) (xs' := s.routes.eraseIdx i) hs2 k3 (by rw [upd_same, erase_map]) (paired_erase i (rous_keep hs2.rou (path1 wf) k3 okF))
      have wf3 : Wf { s with routes := s.routes.eraseIdx i } := wf_sub wf (List.eraseIdx_sublist ..)
      have tr : ∀ f ∈ [L.rl], ∃ o, H1 f = some o ∧ NT o := fun f hf => by rw [List.mem_singleton.mp hf]; exact ⟨_, hs1.rl, nt_lst _⟩
      have trb : tb ≠ L.rl := fun e => ntb.ne hs1.rl (nt_lst _) e.symm
      refine ⟨_, rfl, _, rfl, { L with rs := L.rs.eraseIdx i }, s, { s with routes := s.routes.eraseIdx i }, tb, ts, rfl, hs3, wf, wf3, k3.t (e2.2 (e1.2 tabs)), rfl, k3.at_ htb (not1 trb), tabs_keep wf pts nts tr k3 okF, fun H4 p e4 np hp => ?_⟩
      have kk : Keep (Tl K) [L.rl] H (upd H2 L.rl (.lst ((L.rs.map V.ref).eraseIdx i))) := (e1.trans e2).keep.trans k3
      exact h H4 { L with rs := L.rs.eraseIdx i } p (kk.trans e4.keep) rfl (fun b hb => .inl hb) (fun a ha => .inl (List.mem_of_mem_eraseIdx ha)) (hs3.ex e4) (nw_keep kk np) hp
theorem sc_wall : FnScope ["server", "member", "tables_before", "route"] ["server", "member"] (defScope s_withdraw_all) := ⟨rfl, rfl, rfl, by decide +kernel, rfl, by decide +kernel, by decide +kernel⟩
theorem ok_wall (T : Txt K mg) (TB : TabB base mg (He.cT K tp1).1 (He.cT K tp1).2) : Ok P w K mg base 10 (He.ga K "withdraw_all") ["server", "member"] (spM1 K (fun L => [L.a]) Su201.Operation.withdrawAll) := by
  refine ok_of T.d_withdraw_all sc_wall (fun vs H Q E h => ?_) (fun _ _ _ _ _ _ us hl => match us, hl with | [_, _], _ => rfl) (fun cdv A outer s H vs Q E hr h => ⟨_,
    pss_cons (ps_if (pt_not (pt_val (pe_mt (pv 0) T.c_RouteServer T.m_RouteServer_has_member (ok_has_member T) (hr.mono (by decide)) (pa_cons (pv 1) pa_nil)))) (pss_one (ps_ret (pe_lst (pa_cons (pe_gi rfl T.i_NO_MEMBER) pa_nil)))) pss_nil)
    (pss_cons (ps_set (i := 2) sc_wall.nd rfl (.inl rfl) (pe_mt0 (pv 0) T.c_RouteServer T.m_RouteServer_routing_tables (ok_tables T TB) (hr.mono (by decide))))
    (pss_cons (ps_fld (pv 0) (pe_lc (own := [("route", 3)]) (g := gName 3) (tt := _) rfl sc_wall.nd (pi_list (pe_fld (pv 0) rfl)) (blkOk_by (N := ["server", "member", "tables_before", "route"]) (sc := defScope s_withdraw_all) (by decide +kernel))
        (fun _ _ _ _ _ => pg_name (i := 3) sc_wall.nd rfl (Or.inl rfl)) (fun _ _ _ _ _ => pts_one (pt_cmpR op_ne (show PE _ _ (tFld K (tVar 3) "announcer") from pe_fld (pv 3) rfl) (pv 1) (nomark _))) (fun _ _ _ _ _ => pv 3)) rfl)
    (pss_one (ps_ret (pe_cl (ok_changed T TB) hr rfl T.g_changed_since (pa_cons (pv 0) (pa_cons (pv 2) pa_nil))))))), ?_⟩)
  · obtain ⟨L, s, q, m, rfl, _⟩ := h
    rfl
  · obtain ⟨L, s, q, m, rfl, hs, wf, tabs, h⟩ := h
    have x1 : s.hasMember m = false → Su201.execute s (.withdrawAll m) = (s, Su201.error (-2)) := fun c => by
      show (if s.hasMember m = false then _ else _) = _
      rw [if_pos c]
    refine ⟨_, rfl, _, _, _, rfl, hs.o, sF_no_has_member _ _, _, rfl, L, s, m, rfl, hs, _, rfl, ?_⟩
    cases c1 : s.hasMember m
    · exact iteT ⟨len1, fun p np => done_err h (x1 c1) hs (Ex.refl _ _) np⟩
    have hm := hm_lt c1
    have r20 := wf.r20
    have ex : Su201.execute s (.withdrawAll m) = s.update { s with routes := s.routes.filter fun x => x.announcer != m } := by
      show (if s.hasMember m = false then _ else _) = _
      rw [if_neg (by rw [c1]; exact Bool.noConfusion)]
    have h : Done K [L.a] L q ({ s with routes := s.routes.filter fun x => x.announcer != m }, Su201.okList (s.changedMembers { s with routes := s.routes.filter fun x => x.announcer != m })) H Q := by
      rw [ex] at h
      exact h
    refine iteF ⟨_, rfl, _, _, _, rfl, hs.o, sF_no_routing_tables _ _, L, s, rfl, hs, wf, tabs, fun H2 tb ts e2 ntb nts htb pts => ?_⟩
    have hs2 := hs.ex e2
    refine ⟨_, rfl, _, _, _, _, _, rfl, hs2.o, T.c_RouteServer, T.a_RouteServer_routes, sF_routes _ _, _, rfl, ⟨_, SqL.of hs2.rl⟩, fun D nD => ?_⟩
    refine lc_list (K := K) (a := L.rl) (xs := L.rs.map V.ref) (fun i H' => FilI K D H2 (fun x => x.announcer != m) s.routes i H' ∧ ∀ vs, H' D = some (.lst vs) → ∀ v ∈ vs, v ∈ L.rs.map V.ref) ⟨fil_0 nD, fun vs e v hv => by rw [upd_same] at e; cases e; cases hv⟩ (fun i H' _ f => SqL.of (f.1.1.at_ hs2.rl)) ?_ ?_
    · rintro i x H' hx ⟨f, sub⟩
      obtain ⟨b, r, rfl, hr', hb⟩ := rs_at hs2.rou hx
      obtain ⟨dx, q0, ho, hq⟩ := hb.ex f.1
      have be : (!decide (nV r.announcer = nV m)) = (r.announcer != m) := by rw [dec_nV]; rfl
      refine ⟨rfl, _, rfl, _, _, _, _, _, rfl, ho, T.c_Route, T.a_Route_announcer, rF_announcer _ _, _, rfl, rfl, _, rfl, ?_⟩
      refine if_of (b := !decide (nV r.announcer = nV m)) (fun c => ?_) (fun c => ⟨fil_no f hr' (by rw [be] at c; exact c), sub⟩)
      obtain ⟨acc, ha, hlt, f'⟩ := fil_yes f nD (by omega) hr' hb (by rw [be] at c; exact c)
      refine ⟨_, rfl, acc, ha, hlt, f', fun vs e v hv => ?_⟩
      rw [upd_same] at e
      cases e
      rcases List.mem_append.mp hv with hv | hv
      · exact sub acc ha v hv
      · rw [List.mem_singleton.mp hv]
        exact List.mem_of_getElem? hx
    · rintro H3 ⟨f3, sub⟩
      obtain ⟨e3, qs, hq, pq⟩ := fil_end (sqlen hs2.rou) f3
      have hs3 := hs2.ex e3
      have pq3 := rous_ex pq e3
      refine ⟨_, rfl, _, _, _, _, rfl, hs3.o, T.c_RouteServer, T.a_RouteServer_routes, by show 2 < 1000; decide, ?_⟩
      have k4 : Keep (Tl K) [L.a] H3 (upd H3 L.a (.ins (cS K) L.dx (putF "routes" (.ref D) (sF L.ml L.rl)))) := Keep.upd hs3.o (nt_ins _ _ _) (nt_ins _ _ _) fun _ e => by cases e
      have okF : FootOk [L.a] H3 := fun f hf => by rw [List.mem_singleton.mp hf]; exact ⟨_, hs3.o, .inr (.inr ⟨_, _, _, _, rfl⟩)⟩
      have in1 : ∀ r ∈ s.routes.filter (fun x => x.announcer != m), r ∈ s.routes := fun r hr => (List.mem_filter.mp hr).1
      have Da : D ≠ L.a := (ne_of_none hs2.o nD).symm
      have hs4 : SrvAt K (upd H3 L.a (.ins (cS K) L.dx (putF "routes" (.ref D) (sF L.ml L.rl)))) { L with rl := D, rs := qs } { s with routes := s.routes.filter fun x => x.announcer != m } := by
        refine ⟨?_, k4.at_ hs3.ml (not1 fun e => hs3.a_ml e.symm), k4.at_ hq (not1 Da), (show Paired (MemAt (cM K) _) L.ms s.members from mems_keep hs3 k4 okF fun d hd => not1 fun e => ?_), rous_keep pq3 (fun x hx => path1 wf x (in1 x hx)) k4 okF, ne_of_none hs2.ml nD, hs.nd⟩
        · show upd H3 L.a _ L.a = _
          rw [upd_same, sF_routes_put]
        · obtain ⟨kvs, z⟩ := hs3.ds hd
          rw [e, hs3.o] at z
          cases z
      have wf3 : Wf { s with routes := s.routes.filter fun x => x.announcer != m } := wf_sub wf List.filter_sublist
      have tr : ∀ f ∈ [L.a], ∃ o, H f = some o ∧ NT o := fun f hf => by rw [List.mem_singleton.mp hf]; exact ⟨_, hs.o, nt_ins _ _ _⟩
      have trb : tb ≠ L.a := fun e => ntb.ne hs.o (nt_ins _ _ _) e.symm
      have pts3 := paired_imp pts fun t xs z => z.ex e3
      refine ⟨_, rfl, _, rfl, { L with rl := D, rs := qs }, s, { s with routes := s.routes.filter fun x => x.announcer != m }, tb, ts, rfl, hs4, wf, wf3, k4.t (e3.2 (e2.2 tabs)), rfl, k4.at_ (e3.at_ htb) (not1 trb), tabs_keep wf pts3 nts tr k4 okF, fun H5 p e5 np hp => ?_⟩
      have kk : Keep (Tl K) [L.a] H (upd H3 L.a (.ins (cS K) L.dx (putF "routes" (.ref D) (sF L.ml L.rl)))) := (e2.trans e3).keep.trans k4
      refine h H5 { L with rl := D, rs := qs } p (kk.trans e5.keep) rfl (fun b hb => ?_) (fun a ha => ?_) (hs4.ex e5) (nw_keep kk np) hp
      · have hb : b ∈ L.a :: L.ml :: D :: dsOf L.ms := hb
        simp only [List.mem_cons] at hb
        rcases hb with rfl | rfl | rfl | hb
        · exact .inl (List.mem_cons_self ..)
        · exact .inl (List.mem_cons_of_mem _ (List.mem_cons_self ..))
        · exact .inr (nw_ex e2 (.inl nD))
        · exact .inl (List.mem_cons_of_mem _ (List.mem_cons_of_mem _ (List.mem_cons_of_mem _ hb)))
      · have := sub _ hq (V.ref a) (List.mem_map_of_mem ha)
        obtain ⟨b, hb, e⟩ := List.mem_map.mp this
        cases e
        exact .inl hb
end
end Nhp
/-! changes.py: announce, the policies; reports.py: preview_withdraw -/
namespace Nhp
open PySem PySem.Spec PyProof.Rows L2 LamX NdefX
def spAnn (K : PySem.W.Frag) : Sp := fun vs H Q _ => ∃ (L : SA) (s : Su201.RouteServer) (q : Addr) (m a l : Nat) (p : List Nat), vs = [.ref L.a, nV m, nV a, nV l, .ref q] ∧ SrvAt K H L s ∧ Wf s ∧ Tabs (Tl K) H ∧ H q = some (.lst (nsV p)) ∧ Done K [L.rl] L q (Su201.execute s (.announce m a l p)) H Q
section
variable {P : Program} {w : World} {K : PySem.W.Frag} {mg : Str → Option Value} {base : Heap}
theorem preview_is (s : Su201.RouteServer) (m a l : Nat) : Su201.execute s (.previewWithdraw m a l) = (s, (Su201.execute s (.withdraw m a l)).2) := by
  unfold Su201.execute
  dsimp only
  split
  · rfl
  split
  · rfl
  cases s.findRoute m a l <;> rfl
theorem sc_prev : FnScope ["server", "member", "address", "length"] ["server", "member", "address", "length"] (defScope s_preview_withdraw) := ⟨rfl, rfl, rfl, by decide +kernel, rfl, by decide +kernel, by decide +kernel⟩
theorem ok_prev (T : Txt K mg) (TB : TabB base mg (He.cT K tp1).1 (He.cT K tp1).2) : Ok P w K mg base 11 (He.ga K "preview_withdraw") ["server", "member", "address", "length"] (spOp3 K Su201.Operation.previewWithdraw) := by
  refine ok_of T.d_preview_withdraw sc_prev (fun vs H Q E h => ?_) (fun _ _ _ _ _ _ us hl => match us, hl with | [_, _, _, _], _ => rfl) (fun cdv A outer s H vs Q E hr h => ⟨_,
    pss_one (ps_ret (pe_cl (ok_withdraw T TB) hr rfl T.g_withdraw (pa_cons (pe_mt0 (pv 0) T.c_RouteServer T.m_RouteServer_with_own_routes (ok_own T) (hr.mono (by decide))) (pa_cons (pv 1) (pa_cons (pv 2) (pa_cons (pv 3) pa_nil)))))), ?_⟩)
  · obtain ⟨L, s, q, m, a, l, rfl, _⟩ := h
    rfl
  · obtain ⟨L, s, q, m, a, l, rfl, hs, wf, tabs, h⟩ := h
    refine ⟨_, rfl, _, _, _, rfl, hs.o, sF_no_with_own_routes _ _, L, s, rfl, hs, fun H1 b dx rl e1 nb nrl hs1 => ⟨_, rfl, _, rfl, _, rfl, ⟨b, dx, L.ml, rl, L.ms, L.rs⟩, s, q, m, a, l, rfl, hs1, wf, e1.2 tabs, fun H2 L2 p k2 _ _ _ _ np hp => ?_⟩⟩
    have x : Ex (Tl K) H H2 := ((e1.keep (F := [rl])).trans k2).ex fun f hf => by rw [List.mem_singleton.mp hf]; exact nrl
    exact done_ok h (preview_is s m a l) hs x (nw_ex e1 np) hp
theorem sc_announce : FnScope ["server", "member", "address", "length", "as_path", "place", "tables_before", "route"] ["server", "member", "address", "length", "as_path"] (defScope s_announce) := ⟨rfl, rfl, rfl, by decide +kernel, rfl, by decide +kernel, by decide +kernel⟩
theorem ok_announce (T : Txt K mg) (TB : TabB base mg (He.cT K tp1).1 (He.cT K tp1).2) : Ok P w K mg base 10 (He.ga K "announce") ["server", "member", "address", "length", "as_path"] (spAnn K) := by
  refine ok_of T.d_announce sc_announce (fun vs H Q E h => ?_) (fun _ _ _ _ _ _ us hl => match us, hl with | [_, _, _, _, _], _ => rfl) (fun cdv A outer s H vs Q E hr h => ⟨_,
    pss_cons (ps_if (pt_not (pt_val (pe_mt (pv 0) T.c_RouteServer T.m_RouteServer_has_member (ok_has_member T) (hr.mono (by decide)) (pa_cons (pv 1) pa_nil)))) (pss_one (ps_ret (pe_lst (pa_cons (pe_gi rfl T.i_NO_MEMBER) pa_nil)))) pss_nil)
    (pss_cons (ps_if (PW.pt (pw_or (pt_not (pt_val (pe_cl (ok_is_prefix T) (hr.mono (by decide)) rfl T.g_is_prefix (pa_cons (pv 2) (pa_cons (pv 3) pa_nil))))) (pw_or1 (pt_not (pt_val (pe_cl (ok_is_as_path T) (hr.mono (by decide)) rfl T.g_is_as_path (pa_cons (pv 4) (pa_cons (pe_fld (pe_ix ix_list (pe_fld (pv 0) rfl) (pv 1) (fun _ _ => rfl)) rfl) pa_nil)))))))) (pss_one (ps_ret (pe_lst (pa_cons (pe_gi rfl T.i_INVALID) pa_nil)))) pss_nil)
    (pss_cons (ps_set (i := 5) sc_announce.nd rfl (.inl rfl) (pe_mt (pv 0) T.c_RouteServer T.m_RouteServer_place_of_route (ok_place T) (hr.mono (by decide)) (pa_cons (pv 1) (pa_cons (pv 2) (pa_cons (pv 3) pa_nil)))))
    (pss_cons (ps_if (PW.pt (pw_and (pt_cmpR op_isN (pv 5) pe_non (nomark _)) (pw_and1 (pt_cmpR op_ge (pe_callB call_len_seq rfl T.n_len PySem.boot_len (pa_cons (pe_fld (pv 0) rfl) pa_nil)) (pe_gi rfl T.i_MAX_ROUTES) (nomark _))))) (pss_one (ps_ret (pe_lst (pa_cons (pe_gi rfl T.i_LIMIT_REACHED) pa_nil)))) pss_nil)
    (pss_cons (ps_set (i := 6) sc_announce.nd rfl (.inl rfl) (pe_mt0 (pv 0) T.c_RouteServer T.m_RouteServer_routing_tables (ok_tables T TB) (hr.mono (by decide))))
    (pss_cons (ps_set (i := 7) sc_announce.nd rfl (.inl rfl) (pe_mk T.k_Route (ok_route_init T) (hr.mono (by decide)) rfl T.g_Route (pa_cons (pv 1) (pa_cons (pv 2) (pa_cons (pv 3) (pa_cons (pv 4) pa_nil))))))
    (pss_cons (ps_if (pt_cmpR op_isN (pv 5) pe_non (nomark _)) (pss_one (ps_expr (pe_bm PySem.F.plainAttrs_list PySem.F.slot_list_append PySem.F.type_list_append mt_append (pe_fld (pv 0) rfl) (pa_cons (pv 7) pa_nil)))) (pss_one (ps_asg (pv 7) (pg_sub (pe_fld (pv 0) rfl) (pv 5) set_list))))
    (pss_one (ps_ret (pe_cl (ok_changed T TB) hr rfl T.g_changed_since (pa_cons (pv 0) (pa_cons (pv 6) pa_nil))))))))))), ?_⟩)
  · obtain ⟨L, s, q, m, a, l, p, rfl, _⟩ := h
    rfl
  · obtain ⟨L, s, q, m, a, l, p, rfl, hs, wf, tabs, hq, h⟩ := h
    have r20 := wf.r20
    have x1 : s.hasMember m = false → Su201.execute s (.announce m a l p) = (s, Su201.error (-2)) := fun c => by
      show (if s.hasMember m = false then _ else _) = _
      rw [if_pos c]
    refine ⟨_, rfl, _, _, _, rfl, hs.o, sF_no_has_member _ _, _, rfl, L, s, m, rfl, hs, _, rfl, ?_⟩
    cases c1 : s.hasMember m
    · exact iteT ⟨len1, fun p np => done_err h (x1 c1) hs (Ex.refl _ _) np⟩
    have hm := hm_lt c1
    have ex : Su201.execute s (.announce m a l p) = (if Su201.isPrefix a l = false ∨ s.isAsPath m p = false then (s, Su201.error (-22)) else (match s.findRoute m a l with
        | some y => s.update { s with routes := s.routes.map fun z => if z = y then ⟨m, a, l, p⟩ else z }
        | none => if 20 ≤ s.routes.length then (s, Su201.error (-28)) else s.update { s with routes := s.routes ++ [⟨m, a, l, p⟩] })) := by
      show (if s.hasMember m = false then _ else (if Su201.isPrefix a l = false ∨ s.isAsPath m p = false then (s, Su201.error (-22)) else (match s.findRoute m a l with
        | some y => s.update { s with routes := s.routes.map fun z => if z = y then ⟨m, a, l, p⟩ else z }
        | none => if 20 ≤ s.routes.length then (s, Su201.error (-28)) else s.update { s with routes := s.routes ++ [⟨m, a, l, p⟩] }))) = _
      rw [if_neg (by rw [c1]; exact Bool.noConfusion)]
    rw [ex] at h
    refine iteF ⟨_, rfl, _, rfl, a, l, rfl, _, rfl, ?_⟩
    cases c2 : Su201.isPrefix a l
    · rw [if_pos (.inl c2)] at h
      exact iteT (iteT ⟨len1, fun p2 np => done_err h rfl hs (Ex.refl _ _) np⟩)
    obtain ⟨xm, em, mm⟩ := hs.member hm
    refine iteF ⟨_, rfl, _, rfl, _, _, _, _, _, rfl, hs.o, T.c_RouteServer, T.a_RouteServer_members, sF_members _ _, _, rfl, _, _, _, _, rfl, rfl, SqL.of hs.ml, atI_nat (ms_at em), ?_⟩
    refine ⟨_, _, _, _, _, rfl, mm.o, T.c_Member, T.a_Member_asn, mF_asn _ _, q, p, (s.member m).asn, rfl, hq, fun H1 s1 => ⟨_, rfl, ?_⟩⟩
    have e1 : Ex (Tl K) H H1 := exS s1
    have hs1 := hs.ex e1
    have pe : pathOk (s.member m).asn p = s.isAsPath m p := rfl
    rw [pe]
    cases c3 : s.isAsPath m p
    · rw [if_pos (.inr c3)] at h
      exact iteT ⟨len1, fun p2 np => done_err h rfl hs e1 np⟩
    rw [if_neg (fun z => by rcases z with z | z; rw [c2] at z; cases z; rw [c3] at z; cases z)] at h
    have ap := isAsPath_iff c3
    have wr : WfR s ⟨m, a, l, p⟩ := ⟨hm, c2, ap.1, ap.2.1, ap.2.2⟩
    refine iteF ⟨_, rfl, _, _, _, rfl, hs1.o, sF_no_place_of_route _ _, _, rfl, _, rfl, _, rfl, L, s, m, a, l, rfl, hs1, fun H2 s2 => ?_⟩
    have e2 : Ex (Tl K) H1 H2 := exS s2
    have hs2 := hs1.ex e2
    have lr : (L.rs.map V.ref).length = s.routes.length := sqlen hs.rou
    refine ⟨fun no => ?_, fun i y hi hk => ?_⟩
    · rw [find_none no] at h
      have h : Done K [L.rl] L q (if 20 ≤ s.routes.length then (s, Su201.error (-28)) else s.update { s with routes := s.routes ++ [⟨m, a, l, p⟩] }) H Q := h
      refine ⟨_, rfl, rfl, _, rfl, iteT ⟨_, rfl, _, _, _, _, _, rfl, hs2.o, T.c_RouteServer, T.a_RouteServer_routes, sF_routes _ _, _, _, rfl, .inl (SqL.of hs2.rl), _, _, rfl, rfl, _, rfl, ?_⟩⟩
      by_cases c4 : 20 ≤ s.routes.length
      · rw [if_pos c4] at h
        rw [decide_eq_true (show ((L.rs.map V.ref).length : Int) ≥ 20 by rw [lr]; omega)]
        exact iteT ⟨len1, fun p2 np => done_err h rfl hs (e1.trans e2) np⟩
      rw [if_neg c4] at h
      rw [decide_eq_false (show ¬ ((L.rs.map V.ref).length : Int) ≥ 20 by rw [lr]; omega)]
      have h : Done K [L.rl] L q ({ s with routes := s.routes ++ [⟨m, a, l, p⟩] }, Su201.okList (s.changedMembers { s with routes := s.routes ++ [⟨m, a, l, p⟩] })) H Q := h
      have wf3 : Wf { s with routes := s.routes ++ [⟨m, a, l, p⟩] } := wf_add wf wr (by omega) fun x hx e => by
        have := no x hx
        rw [hasKey_iff.mpr e] at this
        cases this
      refine iteF ?_
      have hs2' := hs2
      refine ⟨_, rfl, _, _, _, rfl, hs2.o, sF_no_routing_tables _ _, L, s, rfl, hs2, wf, (e1.trans e2).2 tabs, fun H3 tb ts e3 ntb nts htb pts => ?_⟩
      refine ⟨_, rfl, _, rfl, _, rfl, _, rfl, fun x dx nx nd ne => ?_⟩
      obtain ⟨e4, x4⟩ := mk_ex (T := Tl K) (o := .ins (cR K) dx []) (u := .own x) nx nd ne
      refine ⟨x, dx, ⟨m, a, l, p⟩, q, rfl, x4, fun H5 k5 hx5 => ⟨rfl, ?_⟩⟩
      have e35 : Ex (Tl K) H3 H5 := mk_done e4 nx k5
      have e25 := e3.trans e35
      have eH := (e1.trans e2).trans e25
      have hs5 := hs2.ex e25
      have hq5 := eH.at_ hq
      have rx5 : RouAt (cR K) H5 x ⟨m, a, l, p⟩ := ⟨dx, q, hx5, hq5⟩
      have htb5 := e35.at_ htb
      have pts5 := paired_imp pts fun t xs z => z.ex e35
      have okF : FootOk [L.rl] H5 := foot1 hs5.rl
      have tr : ∀ f ∈ [L.rl], ∃ o, H2 f = some o ∧ NT o := fun f hf => by rw [List.mem_singleton.mp hf]; exact ⟨_, hs2.rl, nt_lst _⟩
      have trb : tb ≠ L.rl := fun e => ntb.ne hs2.rl (nt_lst _) e.symm
      refine ⟨_, rfl, rfl, _, rfl, iteT ⟨_, rfl, _, _, _, _, _, rfl, hs5.o, T.c_RouteServer, T.a_RouteServer_routes, sF_routes _ _, .inl ⟨rfl, _, SqL.of hs5.rl⟩, _, rfl, _, _, _, rfl, rfl, hs5.rl, line_lt (by omega), ?_⟩⟩
      rw [show (L.rs.map V.ref) ++ [V.ref x] = (L.rs ++ [x]).map V.ref by rw [List.map_append]; rfl]
      have pr5 : Paired (RouAt (cR K) H5) (L.rs ++ [x]) (s.routes ++ [⟨m, a, l, p⟩]) := paired_snoc hs5.rou rx5
      have k6 : Keep (Tl K) [L.rl] H5 (upd H5 L.rl (.lst ((L.rs ++ [x]).map V.ref))) := Keep.lst hs5.rl
      have rou : Paired (RouAt (cR K) (upd H5 L.rl (.lst ((L.rs ++ [x]).map V.ref)))) (L.rs ++ [x]) (s.routes ++ [⟨m, a, l, p⟩]) := rous_keep pr5 (path1 wf3) k6 okF
      have hs6 := srv_routes (rs' := L.rs ++ [x]) (xs' := s.routes ++ [⟨m, a, l, p⟩]) hs5 k6 upd_same rou
      refine ⟨_, rfl, _, rfl, { L with rs := L.rs ++ [x] }, s, { s with routes := s.routes ++ [⟨m, a, l, p⟩] }, tb, ts, rfl, hs6, wf, wf3, k6.t (eH.2 tabs), rfl, k6.at_ htb5 (not1 trb), tabs_keep wf pts5 nts tr k6 okF, fun H7 p7 e7 np hp => ?_⟩
      have kk : Keep (Tl K) [L.rl] H (upd H5 L.rl (.lst ((L.rs ++ [x]).map V.ref))) := eH.keep.trans k6
      refine h H7 { L with rs := L.rs ++ [x] } p7 (kk.trans e7.keep) rfl (fun b hb => .inl hb) (fun b hb => ?_) (hs6.ex e7) (nw_keep kk np) hp
      have xx : b = x → b ∈ L.rs ∨ ∃ dx y, H7 b = some (.ins (cR K) dx (rF y q)) := fun e => by
        subst e
        exact .inr ⟨dx, _, e7.at_ (k6.at_ hx5 (not_foot okF hx5 pf_not_rou))⟩
      rcases List.mem_append.mp hb with hb | hb
      · exact .inl hb
      · exact xx (List.mem_singleton.mp hb)
    · rw [find_mem wf (List.mem_of_getElem? hi) hk] at h
      have h : Done K [L.rl] L q (s.update { s with routes := s.routes.map fun z => if z = y then ⟨m, a, l, p⟩ else z }) H Q := h
      rw [map_set (nodup_routes wf) hi] at h
      have h : Done K [L.rl] L q ({ s with routes := s.routes.set i ⟨m, a, l, p⟩ }, Su201.okList (s.changedMembers { s with routes := s.routes.set i ⟨m, a, l, p⟩ })) H Q := h
      have wf3 : Wf { s with routes := s.routes.set i ⟨m, a, l, p⟩ } := wf_set wf wr hi (hasKey_iff.mp hk).symm
      refine ⟨_, rfl, rfl, _, rfl, iteF (iteF ?_)⟩
      have hs2' := hs2
      refine ⟨_, rfl, _, _, _, rfl, hs2.o, sF_no_routing_tables _ _, L, s, rfl, hs2, wf, (e1.trans e2).2 tabs, fun H3 tb ts e3 ntb nts htb pts => ?_⟩
      refine ⟨_, rfl, _, rfl, _, rfl, _, rfl, fun x dx nx nd ne => ?_⟩
      obtain ⟨e4, x4⟩ := mk_ex (T := Tl K) (o := .ins (cR K) dx []) (u := .own x) nx nd ne
      refine ⟨x, dx, ⟨m, a, l, p⟩, q, rfl, x4, fun H5 k5 hx5 => ⟨rfl, ?_⟩⟩
      have e35 : Ex (Tl K) H3 H5 := mk_done e4 nx k5
      have e25 := e3.trans e35
      have eH := (e1.trans e2).trans e25
      have hs5 := hs2.ex e25
      have hq5 := eH.at_ hq
      have rx5 : RouAt (cR K) H5 x ⟨m, a, l, p⟩ := ⟨dx, q, hx5, hq5⟩
      have htb5 := e35.at_ htb
      have pts5 := paired_imp pts fun t xs z => z.ex e35
      have okF : FootOk [L.rl] H5 := foot1 hs5.rl
      have tr : ∀ f ∈ [L.rl], ∃ o, H2 f = some o ∧ NT o := fun f hf => by rw [List.mem_singleton.mp hf]; exact ⟨_, hs2.rl, nt_lst _⟩
      have trb : tb ≠ L.rl := fun e => ntb.ne hs2.rl (nt_lst _) e.symm
      refine ⟨_, rfl, rfl, _, rfl, iteF ⟨_, rfl, _, rfl, _, _, _, _, _, rfl, hs5.o, T.c_RouteServer, T.a_RouteServer_routes, sF_routes _ _, _, rfl, _, _, _, i, rfl, rfl, hs5.rl, ixN_at (by rw [lr]; exact at_len hi), ?_⟩⟩
      rw [show (L.rs.map V.ref).set i (V.ref x) = (L.rs.set i x).map V.ref by rw [List.map_set]]
      have pr5 : Paired (RouAt (cR K) H5) (L.rs.set i x) (s.routes.set i ⟨m, a, l, p⟩) := paired_set rx5 i hs5.rou
      have k6 : Keep (Tl K) [L.rl] H5 (upd H5 L.rl (.lst ((L.rs.set i x).map V.ref))) := Keep.lst hs5.rl
      have rou : Paired (RouAt (cR K) (upd H5 L.rl (.lst ((L.rs.set i x).map V.ref)))) (L.rs.set i x) (s.routes.set i ⟨m, a, l, p⟩) := rous_keep pr5 (path1 wf3) k6 okF
      have hs6 := srv_routes (rs' := L.rs.set i x) (xs' := s.routes.set i ⟨m, a, l, p⟩) hs5 k6 upd_same rou
      refine ⟨_, rfl, _, rfl, { L with rs := L.rs.set i x }, s, { s with routes := s.routes.set i ⟨m, a, l, p⟩ }, tb, ts, rfl, hs6, wf, wf3, k6.t (eH.2 tabs), rfl, k6.at_ htb5 (not1 trb), tabs_keep wf pts5 nts tr k6 okF, fun H7 p7 e7 np hp => ?_⟩
      have kk : Keep (Tl K) [L.rl] H (upd H5 L.rl (.lst ((L.rs.set i x).map V.ref))) := eH.keep.trans k6
      refine h H7 { L with rs := L.rs.set i x } p7 (kk.trans e7.keep) rfl (fun b hb => .inl hb) (fun b hb => ?_) (hs6.ex e7) (nw_keep kk np) hp
      have xx : b = x → b ∈ L.rs ∨ ∃ dx y, H7 b = some (.ins (cR K) dx (rF y q)) := fun e => by
        subst e
        exact .inr ⟨dx, _, e7.at_ (k6.at_ hx5 (not_foot okF hx5 pf_not_rou))⟩
      rcases List.mem_or_eq_of_mem_set hb with hb | hb
      · exact .inl hb
      · exact xx hb
theorem sc_setexp : FnScope ["server", "member", "peer", "denied", "refusal", "tables_before"] ["server", "member", "peer", "denied"] (defScope s_set_export) := ⟨rfl, rfl, rfl, by decide +kernel, rfl, by decide +kernel, by decide +kernel⟩
theorem ok_setexp (T : Txt K mg) (TB : TabB base mg (He.cT K tp1).1 (He.cT K tp1).2) : Ok P w K mg base 10 (He.ga K "set_export") ["server", "member", "peer", "denied"] (spM3 K foot Su201.Operation.setExport) := by
  refine ok_of T.d_set_export sc_setexp (fun vs H Q E h => ?_) (fun _ _ _ _ _ _ us hl => match us, hl with | [_, _, _, _], _ => rfl) (fun cdv A outer s H vs Q E hr h => ⟨_,
    pss_cons (ps_set (i := 4) sc_setexp.nd rfl (.inl rfl) (pe_cl (ok_refusal T) (hr.mono (by decide)) rfl T.g_policy_refusal (pa_cons (pv 0) (pa_cons (pv 1) (pa_cons (pv 2) (pa_cons (pv 3) (pa_cons (pe_gi rfl T.i_MAX_DENIED) pa_nil)))))))
    (pss_cons (ps_if (pt_cmpR op_notN (pv 4) pe_non (nomark _)) (pss_one (ps_ret (pe_lst (pa_cons (pv 4) pa_nil)))) pss_nil)
    (pss_cons (ps_set (i := 5) sc_setexp.nd rfl (.inl rfl) (pe_mt0 (pv 0) T.c_RouteServer T.m_RouteServer_routing_tables (ok_tables T TB) (hr.mono (by decide))))
    (pss_cons (ps_dput (hu_of hr) (pe_fld (pe_ix ix_list (pe_fld (pv 0) rfl) (pv 1) (fun _ _ => rfl)) rfl) (pv 2) (pv 3) rfl)
    (pss_one (ps_ret (pe_cl (ok_changed T TB) hr rfl T.g_changed_since (pa_cons (pv 0) (pa_cons (pv 5) pa_nil)))))))), ?_⟩)
  · obtain ⟨L, s, q, m, a, l, rfl, _⟩ := h
    rfl
  · obtain ⟨L, s, q, m, a, l, rfl, hs, wf, tabs, h⟩ := h
    have m6 := wf.m6
    have ex : Su201.execute s (.setExport m a l) = (if s.hasMember m = false ∨ s.hasMember a = false then (s, Su201.error (-2)) else if m = a ∨ 1 < l then (s, Su201.error (-22)) else s.update (s.setMember m { s.member m with exportDenied := Su201.setDenied (s.member m).exportDenied a l })) := rfl
    rw [ex] at h
    refine ⟨_, rfl, _, rfl, _, rfl, _, rfl, L, s, m, a, l, 1, rfl, hs, ?_⟩
    by_cases c1 : s.hasMember m = false ∨ s.hasMember a = false
    · rw [if_pos c1] at h
      have rv : refV s m a l 1 = .int (-2) := by unfold refV; rw [if_pos c1]
      rw [rv]
      exact ⟨_, rfl, rfl, _, rfl, iteT ⟨_, rfl, len1, fun z nz => done_err h rfl hs (Ex.refl _ _) nz⟩⟩
    rw [if_neg c1] at h
    by_cases c2 : m = a ∨ 1 < l
    · rw [if_pos c2] at h
      have rv : refV s m a l 1 = .int (-22) := by unfold refV; rw [if_neg c1, if_pos c2]
      rw [rv]
      exact ⟨_, rfl, rfl, _, rfl, iteT ⟨_, rfl, len1, fun z nz => done_err h rfl hs (Ex.refl _ _) nz⟩⟩
    rw [if_neg (fun z => c2 z)] at h
    have rv : refV s m a l 1 = .non := by unfold refV; rw [if_neg c1, if_neg c2]
    rw [rv]
    have hm : m < s.members.length := hm_lt (by cases z : s.hasMember m; exact absurd (.inl z) c1; rfl)
    have ha : a < s.members.length := hm_lt (by cases z : s.hasMember a; exact absurd (.inr z) c1; rfl)
    refine ⟨_, rfl, rfl, _, rfl, iteF ⟨_, rfl, _, _, _, rfl, hs.o, sF_no_routing_tables _ _, L, s, rfl, hs, wf, tabs, fun H2 tb ts e2 ntb nts htb pts => ?_⟩⟩
    have hs2 := hs.ex e2
    obtain ⟨x, em, mm⟩ := hs2.member hm
    obtain ⟨kvs, hd, nd, ks, hv⟩ := mm.e
    have k6 := kvs_len nd ks
    refine ⟨_, rfl, _, rfl, _, _, _, _, _, rfl, hs2.o, T.c_RouteServer, T.a_RouteServer_members, sF_members _ _, _, rfl, _, _, _, _, rfl, rfl, SqL.of hs2.ml, atI_nat (ms_at em), _, _, _, _, _, rfl, mm.o, T.c_Member, T.a_Member_export_denials, mF_export_denials _ _, _, rfl, _, _, rfl, DPut.k (k := Sum.inl (a : Int)) hd (line_lt (by omega)), ?_⟩
    have k3 : Keep (Tl K) [x.d1] H2 (upd H2 x.d1 (.dK (putK kvs (Sum.inl (a : Int)) (nV l)))) := Keep.upd hd (nt_dk _) (nt_dk _) fun _ e => by cases e
    have okF : FootOk [x.d1] H2 := fun f hf => by rw [List.mem_singleton.mp hf]; exact ⟨_, hd, .inr (.inl ⟨_, rfl⟩)⟩
    have hmem : x.d1 ∈ dsOf L.ms := by
      have := ds_mem (List.mem_of_getElem? em)
      exact this.1
    obtain ⟨n12, n13, n23⟩ := ds_self hs2.nd em
    have pnew : PolAt (upd H2 x.d1 (.dK (putK kvs (Sum.inl (a : Int)) (nV l)))) x.d1 0 (fun n => Su201.boolToNat ((Su201.setDenied (s.member m).exportDenied a l).contains n)) := PolAt.put (n := a) (v := l) (by omega) nd ks hv upd_same fun n => contains_setDenied (by omega)
    have mem3 : MemAt (cM K) (upd H2 x.d1 (.dK (putK kvs (Sum.inl (a : Int)) (nV l)))) x { s.member m with exportDenied := Su201.setDenied (s.member m).exportDenied a l } := by
      have ka := k3.at_ mm.o (not_foot okF mm.o pf_not_mem)
      have kp : ∀ {d' : Addr} {n : Nat} {f : Nat → Nat}, PolAt H2 d' n f → d' ≠ x.d1 → PolAt (upd H2 x.d1 (.dK (putK kvs (Sum.inl (a : Int)) (nV l)))) d' n f := fun {d' n f} z ne => by
        obtain ⟨kv, z1, z2⟩ := z
        exact ⟨kv, (upd_ne ne).trans z1, z2⟩
      exact ⟨ka, pnew, kp mm.i (Ne.symm n12), kp mm.p (Ne.symm n13)⟩
    have hs3 := srv_member (T := Tl K) wf hs2 hm em (by simp) k3 mem3
    have wf3 : Wf (s.setMember m { s.member m with exportDenied := Su201.setDenied (s.member m).exportDenied a l }) := wf_setMember wf rfl
    have mf : x.d1 ∈ foot L := List.mem_cons_of_mem _ (List.mem_cons_of_mem _ (List.mem_cons_of_mem _ hmem))
    obtain ⟨kv0, hd0⟩ := hs.ds hmem
    have tr : ∀ f ∈ [x.d1], ∃ o, H f = some o ∧ NT o := fun f hf => by rw [List.mem_singleton.mp hf]; exact ⟨_, hd0, nt_dk _⟩
    have trb : tb ≠ x.d1 := fun e => ntb.ne hd0 (nt_dk _) e.symm
    have ln : (s.setMember m { s.member m with exportDenied := Su201.setDenied (s.member m).exportDenied a l }).members.length = s.members.length := List.length_set ..
    refine ⟨_, rfl, _, rfl, L, s, s.setMember m { s.member m with exportDenied := Su201.setDenied (s.member m).exportDenied a l }, tb, ts, rfl, hs3, wf, wf3, k3.t (e2.2 tabs), ln, k3.at_ htb (not1 trb), tabs_keep wf pts nts tr k3 okF, fun H5 p e5 np hp => ?_⟩
    have kk : Keep (Tl K) [x.d1] H (upd H2 x.d1 (.dK (putK kvs (Sum.inl (a : Int)) (nV l)))) := e2.keep.trans k3
    exact h H5 L p ((kk.trans e5.keep).mono fun b hb => by rw [List.mem_singleton.mp hb]; exact mf) rfl (fun b hb => .inl hb) (fun b hb => .inl hb) (hs3.ex e5) (nw_keep kk np) hp
theorem sc_setimp : FnScope ["server", "member", "peer", "denied", "refusal", "tables_before"] ["server", "member", "peer", "denied"] (defScope s_set_import) := ⟨rfl, rfl, rfl, by decide +kernel, rfl, by decide +kernel, by decide +kernel⟩
theorem ok_setimp (T : Txt K mg) (TB : TabB base mg (He.cT K tp1).1 (He.cT K tp1).2) : Ok P w K mg base 10 (He.ga K "set_import") ["server", "member", "peer", "denied"] (spM3 K foot Su201.Operation.setImport) := by
  refine ok_of T.d_set_import sc_setimp (fun vs H Q E h => ?_) (fun _ _ _ _ _ _ us hl => match us, hl with | [_, _, _, _], _ => rfl) (fun cdv A outer s H vs Q E hr h => ⟨_,
    pss_cons (ps_set (i := 4) sc_setimp.nd rfl (.inl rfl) (pe_cl (ok_refusal T) (hr.mono (by decide)) rfl T.g_policy_refusal (pa_cons (pv 0) (pa_cons (pv 1) (pa_cons (pv 2) (pa_cons (pv 3) (pa_cons (pe_gi rfl T.i_MAX_DENIED) pa_nil)))))))
    (pss_cons (ps_if (pt_cmpR op_notN (pv 4) pe_non (nomark _)) (pss_one (ps_ret (pe_lst (pa_cons (pv 4) pa_nil)))) pss_nil)
    (pss_cons (ps_set (i := 5) sc_setimp.nd rfl (.inl rfl) (pe_mt0 (pv 0) T.c_RouteServer T.m_RouteServer_routing_tables (ok_tables T TB) (hr.mono (by decide))))
    (pss_cons (ps_dput (hu_of hr) (pe_fld (pe_ix ix_list (pe_fld (pv 0) rfl) (pv 1) (fun _ _ => rfl)) rfl) (pv 2) (pv 3) rfl)
    (pss_one (ps_ret (pe_cl (ok_changed T TB) hr rfl T.g_changed_since (pa_cons (pv 0) (pa_cons (pv 5) pa_nil)))))))), ?_⟩)
  · obtain ⟨L, s, q, m, a, l, rfl, _⟩ := h
    rfl
  · obtain ⟨L, s, q, m, a, l, rfl, hs, wf, tabs, h⟩ := h
    have m6 := wf.m6
    have ex : Su201.execute s (.setImport m a l) = (if s.hasMember m = false ∨ s.hasMember a = false then (s, Su201.error (-2)) else if a = m ∨ 1 < l then (s, Su201.error (-22)) else s.update (s.setMember m { s.member m with importDenied := Su201.setDenied (s.member m).importDenied a l })) := rfl
    rw [ex] at h
    refine ⟨_, rfl, _, rfl, _, rfl, _, rfl, L, s, m, a, l, 1, rfl, hs, ?_⟩
    by_cases c1 : s.hasMember m = false ∨ s.hasMember a = false
    · rw [if_pos c1] at h
      have rv : refV s m a l 1 = .int (-2) := by unfold refV; rw [if_pos c1]
      rw [rv]
      exact ⟨_, rfl, rfl, _, rfl, iteT ⟨_, rfl, len1, fun z nz => done_err h rfl hs (Ex.refl _ _) nz⟩⟩
    rw [if_neg c1] at h
    by_cases c2 : m = a ∨ 1 < l
    · rw [if_pos (c2.imp Eq.symm id)] at h
      have rv : refV s m a l 1 = .int (-22) := by unfold refV; rw [if_neg c1, if_pos c2]
      rw [rv]
      exact ⟨_, rfl, rfl, _, rfl, iteT ⟨_, rfl, len1, fun z nz => done_err h rfl hs (Ex.refl _ _) nz⟩⟩
    rw [if_neg (fun z => c2 (z.imp Eq.symm id))] at h
    have rv : refV s m a l 1 = .non := by unfold refV; rw [if_neg c1, if_neg c2]
    rw [rv]
    have hm : m < s.members.length := hm_lt (by cases z : s.hasMember m; exact absurd (.inl z) c1; rfl)
    have ha : a < s.members.length := hm_lt (by cases z : s.hasMember a; exact absurd (.inr z) c1; rfl)
    refine ⟨_, rfl, rfl, _, rfl, iteF ⟨_, rfl, _, _, _, rfl, hs.o, sF_no_routing_tables _ _, L, s, rfl, hs, wf, tabs, fun H2 tb ts e2 ntb nts htb pts => ?_⟩⟩
    have hs2 := hs.ex e2
    obtain ⟨x, em, mm⟩ := hs2.member hm
    obtain ⟨kvs, hd, nd, ks, hv⟩ := mm.i
    have k6 := kvs_len nd ks
    refine ⟨_, rfl, _, rfl, _, _, _, _, _, rfl, hs2.o, T.c_RouteServer, T.a_RouteServer_members, sF_members _ _, _, rfl, _, _, _, _, rfl, rfl, SqL.of hs2.ml, atI_nat (ms_at em), _, _, _, _, _, rfl, mm.o, T.c_Member, T.a_Member_import_denials, mF_import_denials _ _, _, rfl, _, _, rfl, DPut.k (k := Sum.inl (a : Int)) hd (line_lt (by omega)), ?_⟩
    have k3 : Keep (Tl K) [x.d2] H2 (upd H2 x.d2 (.dK (putK kvs (Sum.inl (a : Int)) (nV l)))) := Keep.upd hd (nt_dk _) (nt_dk _) fun _ e => by cases e
    have okF : FootOk [x.d2] H2 := fun f hf => by rw [List.mem_singleton.mp hf]; exact ⟨_, hd, .inr (.inl ⟨_, rfl⟩)⟩
    have hmem : x.d2 ∈ dsOf L.ms := by
      have := ds_mem (List.mem_of_getElem? em)
      exact this.2.1
    obtain ⟨n12, n13, n23⟩ := ds_self hs2.nd em
    have pnew : PolAt (upd H2 x.d2 (.dK (putK kvs (Sum.inl (a : Int)) (nV l)))) x.d2 0 (fun n => Su201.boolToNat ((Su201.setDenied (s.member m).importDenied a l).contains n)) := PolAt.put (n := a) (v := l) (by omega) nd ks hv upd_same fun n => contains_setDenied (by omega)
    have mem3 : MemAt (cM K) (upd H2 x.d2 (.dK (putK kvs (Sum.inl (a : Int)) (nV l)))) x { s.member m with importDenied := Su201.setDenied (s.member m).importDenied a l } := by
      have ka := k3.at_ mm.o (not_foot okF mm.o pf_not_mem)
      have kp : ∀ {d' : Addr} {n : Nat} {f : Nat → Nat}, PolAt H2 d' n f → d' ≠ x.d2 → PolAt (upd H2 x.d2 (.dK (putK kvs (Sum.inl (a : Int)) (nV l)))) d' n f := fun {d' n f} z ne => by
        obtain ⟨kv, z1, z2⟩ := z
        exact ⟨kv, (upd_ne ne).trans z1, z2⟩
      exact ⟨ka, kp mm.e n12, pnew, kp mm.p (Ne.symm n23)⟩
    have hs3 := srv_member (T := Tl K) wf hs2 hm em (by simp) k3 mem3
    have wf3 : Wf (s.setMember m { s.member m with importDenied := Su201.setDenied (s.member m).importDenied a l }) := wf_setMember wf rfl
    have mf : x.d2 ∈ foot L := List.mem_cons_of_mem _ (List.mem_cons_of_mem _ (List.mem_cons_of_mem _ hmem))
    obtain ⟨kv0, hd0⟩ := hs.ds hmem
    have tr : ∀ f ∈ [x.d2], ∃ o, H f = some o ∧ NT o := fun f hf => by rw [List.mem_singleton.mp hf]; exact ⟨_, hd0, nt_dk _⟩
    have trb : tb ≠ x.d2 := fun e => ntb.ne hd0 (nt_dk _) e.symm
    have ln : (s.setMember m { s.member m with importDenied := Su201.setDenied (s.member m).importDenied a l }).members.length = s.members.length := List.length_set ..
    refine ⟨_, rfl, _, rfl, L, s, s.setMember m { s.member m with importDenied := Su201.setDenied (s.member m).importDenied a l }, tb, ts, rfl, hs3, wf, wf3, k3.t (e2.2 tabs), ln, k3.at_ htb (not1 trb), tabs_keep wf pts nts tr k3 okF, fun H5 p e5 np hp => ?_⟩
    have kk : Keep (Tl K) [x.d2] H (upd H2 x.d2 (.dK (putK kvs (Sum.inl (a : Int)) (nV l)))) := e2.keep.trans k3
    exact h H5 L p ((kk.trans e5.keep).mono fun b hb => by rw [List.mem_singleton.mp hb]; exact mf) rfl (fun b hb => .inl hb) (fun b hb => .inl hb) (hs3.ex e5) (nw_keep kk np) hp
theorem sc_setpref : FnScope ["server", "member", "peer", "preference", "refusal", "tables_before"] ["server", "member", "peer", "preference"] (defScope s_set_preference) := ⟨rfl, rfl, rfl, by decide +kernel, rfl, by decide +kernel, by decide +kernel⟩
theorem ok_setpref (T : Txt K mg) (TB : TabB base mg (He.cT K tp1).1 (He.cT K tp1).2) : Ok P w K mg base 10 (He.ga K "set_preference") ["server", "member", "peer", "preference"] (spM3 K foot Su201.Operation.setPreference) := by
  refine ok_of T.d_set_preference sc_setpref (fun vs H Q E h => ?_) (fun _ _ _ _ _ _ us hl => match us, hl with | [_, _, _, _], _ => rfl) (fun cdv A outer s H vs Q E hr h => ⟨_,
    pss_cons (ps_set (i := 4) sc_setpref.nd rfl (.inl rfl) (pe_cl (ok_refusal T) (hr.mono (by decide)) rfl T.g_policy_refusal (pa_cons (pv 0) (pa_cons (pv 1) (pa_cons (pv 2) (pa_cons (pv 3) (pa_cons (pe_gi rfl T.i_MAX_PREFERENCE) pa_nil)))))))
    (pss_cons (ps_if (pt_cmpR op_notN (pv 4) pe_non (nomark _)) (pss_one (ps_ret (pe_lst (pa_cons (pv 4) pa_nil)))) pss_nil)
    (pss_cons (ps_set (i := 5) sc_setpref.nd rfl (.inl rfl) (pe_mt0 (pv 0) T.c_RouteServer T.m_RouteServer_routing_tables (ok_tables T TB) (hr.mono (by decide))))
    (pss_cons (ps_dput (hu_of hr) (pe_fld (pe_ix ix_list (pe_fld (pv 0) rfl) (pv 1) (fun _ _ => rfl)) rfl) (pv 2) (pv 3) rfl)
    (pss_one (ps_ret (pe_cl (ok_changed T TB) hr rfl T.g_changed_since (pa_cons (pv 0) (pa_cons (pv 5) pa_nil)))))))), ?_⟩)
  · obtain ⟨L, s, q, m, a, l, rfl, _⟩ := h
    rfl
  · obtain ⟨L, s, q, m, a, l, rfl, hs, wf, tabs, h⟩ := h
    have m6 := wf.m6
    have ex : Su201.execute s (.setPreference m a l) = (if s.hasMember m = false ∨ s.hasMember a = false then (s, Su201.error (-2)) else if a = m ∨ 9 < l then (s, Su201.error (-22)) else s.update (s.setMember m { s.member m with preferences := (a, l) :: (s.member m).preferences.filter fun y => y.1 != a })) := rfl
    rw [ex] at h
    refine ⟨_, rfl, _, rfl, _, rfl, _, rfl, L, s, m, a, l, 9, rfl, hs, ?_⟩
    by_cases c1 : s.hasMember m = false ∨ s.hasMember a = false
    · rw [if_pos c1] at h
      have rv : refV s m a l 9 = .int (-2) := by unfold refV; rw [if_pos c1]
      rw [rv]
      exact ⟨_, rfl, rfl, _, rfl, iteT ⟨_, rfl, len1, fun z nz => done_err h rfl hs (Ex.refl _ _) nz⟩⟩
    rw [if_neg c1] at h
    by_cases c2 : m = a ∨ 9 < l
    · rw [if_pos (c2.imp Eq.symm id)] at h
      have rv : refV s m a l 9 = .int (-22) := by unfold refV; rw [if_neg c1, if_pos c2]
      rw [rv]
      exact ⟨_, rfl, rfl, _, rfl, iteT ⟨_, rfl, len1, fun z nz => done_err h rfl hs (Ex.refl _ _) nz⟩⟩
    rw [if_neg (fun z => c2 (z.imp Eq.symm id))] at h
    have rv : refV s m a l 9 = .non := by unfold refV; rw [if_neg c1, if_neg c2]
    rw [rv]
    have hm : m < s.members.length := hm_lt (by cases z : s.hasMember m; exact absurd (.inl z) c1; rfl)
    have ha : a < s.members.length := hm_lt (by cases z : s.hasMember a; exact absurd (.inr z) c1; rfl)
    refine ⟨_, rfl, rfl, _, rfl, iteF ⟨_, rfl, _, _, _, rfl, hs.o, sF_no_routing_tables _ _, L, s, rfl, hs, wf, tabs, fun H2 tb ts e2 ntb nts htb pts => ?_⟩⟩
    have hs2 := hs.ex e2
    obtain ⟨x, em, mm⟩ := hs2.member hm
    obtain ⟨kvs, hd, nd, ks, hv⟩ := mm.p
    have k6 := kvs_len nd ks
    refine ⟨_, rfl, _, rfl, _, _, _, _, _, rfl, hs2.o, T.c_RouteServer, T.a_RouteServer_members, sF_members _ _, _, rfl, _, _, _, _, rfl, rfl, SqL.of hs2.ml, atI_nat (ms_at em), _, _, _, _, _, rfl, mm.o, T.c_Member, T.a_Member_preferences, mF_preferences _ _, _, rfl, _, _, rfl, DPut.k (k := Sum.inl (a : Int)) hd (line_lt (by omega)), ?_⟩
    have k3 : Keep (Tl K) [x.d3] H2 (upd H2 x.d3 (.dK (putK kvs (Sum.inl (a : Int)) (nV l)))) := Keep.upd hd (nt_dk _) (nt_dk _) fun _ e => by cases e
    have okF : FootOk [x.d3] H2 := fun f hf => by rw [List.mem_singleton.mp hf]; exact ⟨_, hd, .inr (.inl ⟨_, rfl⟩)⟩
    have hmem : x.d3 ∈ dsOf L.ms := by
      have := ds_mem (List.mem_of_getElem? em)
      exact this.2.2
    obtain ⟨n12, n13, n23⟩ := ds_self hs2.nd em
    have pnew : PolAt (upd H2 x.d3 (.dK (putK kvs (Sum.inl (a : Int)) (nV l)))) x.d3 5 (prefOf { s.member m with preferences := (a, l) :: (s.member m).preferences.filter fun y => y.1 != a }) := PolAt.put (n := a) (v := l) (by omega) nd ks hv upd_same fun n => find_put
    have mem3 : MemAt (cM K) (upd H2 x.d3 (.dK (putK kvs (Sum.inl (a : Int)) (nV l)))) x { s.member m with preferences := (a, l) :: (s.member m).preferences.filter fun y => y.1 != a } := by
      have ka := k3.at_ mm.o (not_foot okF mm.o pf_not_mem)
      have kp : ∀ {d' : Addr} {n : Nat} {f : Nat → Nat}, PolAt H2 d' n f → d' ≠ x.d3 → PolAt (upd H2 x.d3 (.dK (putK kvs (Sum.inl (a : Int)) (nV l)))) d' n f := fun {d' n f} z ne => by
        obtain ⟨kv, z1, z2⟩ := z
        exact ⟨kv, (upd_ne ne).trans z1, z2⟩
      exact ⟨ka, kp mm.e n13, kp mm.i n23, pnew⟩
    have hs3 := srv_member (T := Tl K) wf hs2 hm em (by simp) k3 mem3
    have wf3 : Wf (s.setMember m { s.member m with preferences := (a, l) :: (s.member m).preferences.filter fun y => y.1 != a }) := wf_setMember wf rfl
    have mf : x.d3 ∈ foot L := List.mem_cons_of_mem _ (List.mem_cons_of_mem _ (List.mem_cons_of_mem _ hmem))
    obtain ⟨kv0, hd0⟩ := hs.ds hmem
    have tr : ∀ f ∈ [x.d3], ∃ o, H f = some o ∧ NT o := fun f hf => by rw [List.mem_singleton.mp hf]; exact ⟨_, hd0, nt_dk _⟩
    have trb : tb ≠ x.d3 := fun e => ntb.ne hd0 (nt_dk _) e.symm
    have ln : (s.setMember m { s.member m with preferences := (a, l) :: (s.member m).preferences.filter fun y => y.1 != a }).members.length = s.members.length := List.length_set ..
    refine ⟨_, rfl, _, rfl, L, s, s.setMember m { s.member m with preferences := (a, l) :: (s.member m).preferences.filter fun y => y.1 != a }, tb, ts, rfl, hs3, wf, wf3, k3.t (e2.2 tabs), ln, k3.at_ htb (not1 trb), tabs_keep wf pts nts tr k3 okF, fun H5 p e5 np hp => ?_⟩
    have kk : Keep (Tl K) [x.d3] H (upd H2 x.d3 (.dK (putK kvs (Sum.inl (a : Int)) (nV l)))) := e2.keep.trans k3
    exact h H5 L p ((kk.trans e5.keep).mono fun b hb => by rw [List.mem_singleton.mp hb]; exact mf) rfl (fun b hb => .inl hb) (fun b hb => .inl hb) (hs3.ex e5) (nw_keep kk np) hp
end
end Nhp
/-! exchange.py: perform -/
namespace Nhp
open PySem PySem.Spec PyProof.Rows L2 LamX NdefX
def spPerform (K : PySem.W.Frag) : Sp := fun vs H Q _ => ∃ (L : SA) (s : Su201.RouteServer) (g q : Addr) (i : Nat) (ns ps : List Nat), vs = [.ref L.a, nV i, .ref g, .ref q] ∧ SrvAt K H L s ∧ Wf s ∧ Tabs (Tl K) H ∧ 1 ≤ i ∧ i < 18 ∧ ns.length = cnt i ∧ H g = some (.lst (nsV ns)) ∧ H q = some (.lst (nsV ps)) ∧ Done K (foot L) L q (Su201.execute s (opOf i ns ps)) H Q
section
variable {P : Program} {w : World} {K : PySem.W.Frag} {mg : Str → Option Value} {base : Heap}
theorem ne_step {i : Nat} {j : Int} (h : (i : Int) ≠ j) {A B : Prop} (b : B) : if decide (nV i = V.int j) = true then A else B := by
  rw [decide_eq_false (fun e => h (V.int.inj e))]
  exact iteF b
theorem eq_step {i : Nat} {j : Int} (h : (i : Int) = j) {A B : Prop} (a : A) : if decide (nV i = V.int j) = true then A else B := by
  rw [decide_eq_true (show nV i = V.int j from congrArg V.int h)]
  exact iteT a
theorem len_1 {ns : List Nat} (h : ns.length = 1) : ∃ a, ns = [a] := by
  rcases ns with _ | ⟨a, _ | ⟨b, ns⟩⟩ <;> simp at h
  exact ⟨a, rfl⟩
theorem len_2 {ns : List Nat} (h : ns.length = 2) : ∃ a b, ns = [a, b] := by
  rcases ns with _ | ⟨a, _ | ⟨b, _ | ⟨c, ns⟩⟩⟩ <;> simp at h
  exact ⟨a, b, rfl⟩
theorem len_3 {ns : List Nat} (h : ns.length = 3) : ∃ a b c, ns = [a, b, c] := by
  rcases ns with _ | ⟨a, _ | ⟨b, _ | ⟨c, _ | ⟨d, ns⟩⟩⟩⟩ <;> simp at h
  exact ⟨a, b, c, rfl⟩
theorem sc_perform : FnScope ["server", "number", "given", "as_path"] ["server", "number", "given", "as_path"] (defScope s_perform) := ⟨rfl, rfl, rfl, by decide +kernel, rfl, by decide +kernel, by decide +kernel⟩
theorem ok_perform (T : Txt K mg) (TB1 : TabB base mg (He.cT K tp1).1 (He.cT K tp1).2) (TB2 : TabB base mg (He.cT K tp2).1 (He.cT K tp2).2) : Ok P w K mg base 12 (He.ga K "perform") ["server", "number", "given", "as_path"] (spPerform K) := by
  refine ok_of T.d_perform sc_perform (fun vs H Q E h => ?_) (fun _ _ _ _ _ _ us hl => match us, hl with | [_, _, _, _], _ => rfl) (fun cdv A outer s H vs Q E hr h => ⟨_,
    (pss_cons (ps_if (pt_cmpR op_eq (pv 1) (pe_gi rfl T.i_ADD_MEMBER) (nomark _)) (pss_one (ps_ret (pe_cl (ok_addm T) (hr.mono (by decide)) rfl T.g_add_member (pa_cons (pv 0) (pa_cons (pe_ix ix_list (pv 2) pe_int (fun _ _ => rfl)) pa_nil))))) pss_nil)
    (pss_cons (ps_if (pt_cmpR op_eq (pv 1) (pe_gi rfl T.i_ANNOUNCE) (nomark _)) (pss_one (ps_ret (pe_cl (ok_announce T TB1) (hr.mono (by decide)) rfl T.g_announce (pa_cons (pv 0) (pa_cons (pe_ix ix_list (pv 2) pe_int (fun _ _ => rfl)) (pa_cons (pe_ix ix_list (pv 2) pe_int (fun _ _ => rfl)) (pa_cons (pe_ix ix_list (pv 2) pe_int (fun _ _ => rfl)) (pa_cons (pv 3) pa_nil)))))))) pss_nil)
    (pss_cons (ps_if (pt_cmpR op_eq (pv 1) (pe_gi rfl T.i_WITHDRAW) (nomark _)) (pss_one (ps_ret (pe_cl (ok_withdraw T TB1) (hr.mono (by decide)) rfl T.g_withdraw (pa_cons (pv 0) (pa_cons (pe_ix ix_list (pv 2) pe_int (fun _ _ => rfl)) (pa_cons (pe_ix ix_list (pv 2) pe_int (fun _ _ => rfl)) (pa_cons (pe_ix ix_list (pv 2) pe_int (fun _ _ => rfl)) pa_nil))))))) pss_nil)
    (pss_cons (ps_if (pt_cmpR op_eq (pv 1) (pe_gi rfl T.i_SET_EXPORT) (nomark _)) (pss_one (ps_ret (pe_cl (ok_setexp T TB1) (hr.mono (by decide)) rfl T.g_set_export (pa_cons (pv 0) (pa_cons (pe_ix ix_list (pv 2) pe_int (fun _ _ => rfl)) (pa_cons (pe_ix ix_list (pv 2) pe_int (fun _ _ => rfl)) (pa_cons (pe_ix ix_list (pv 2) pe_int (fun _ _ => rfl)) pa_nil))))))) pss_nil)
    (pss_cons (ps_if (pt_cmpR op_eq (pv 1) (pe_gi rfl T.i_SET_IMPORT) (nomark _)) (pss_one (ps_ret (pe_cl (ok_setimp T TB1) (hr.mono (by decide)) rfl T.g_set_import (pa_cons (pv 0) (pa_cons (pe_ix ix_list (pv 2) pe_int (fun _ _ => rfl)) (pa_cons (pe_ix ix_list (pv 2) pe_int (fun _ _ => rfl)) (pa_cons (pe_ix ix_list (pv 2) pe_int (fun _ _ => rfl)) pa_nil))))))) pss_nil)
    (pss_cons (ps_if (pt_cmpR op_eq (pv 1) (pe_gi rfl T.i_SET_PREFERENCE) (nomark _)) (pss_one (ps_ret (pe_cl (ok_setpref T TB1) (hr.mono (by decide)) rfl T.g_set_preference (pa_cons (pv 0) (pa_cons (pe_ix ix_list (pv 2) pe_int (fun _ _ => rfl)) (pa_cons (pe_ix ix_list (pv 2) pe_int (fun _ _ => rfl)) (pa_cons (pe_ix ix_list (pv 2) pe_int (fun _ _ => rfl)) pa_nil))))))) pss_nil)
    (pss_cons (ps_if (pt_cmpR op_eq (pv 1) (pe_gi rfl T.i_BEST_ROUTE) (nomark _)) (pss_one (ps_ret (pe_cl (ok_best T TB1) (hr.mono (by decide)) rfl T.g_best_route (pa_cons (pv 0) (pa_cons (pe_ix ix_list (pv 2) pe_int (fun _ _ => rfl)) (pa_cons (pe_ix ix_list (pv 2) pe_int (fun _ _ => rfl)) (pa_cons (pe_ix ix_list (pv 2) pe_int (fun _ _ => rfl)) pa_nil))))))) pss_nil)
    (pss_cons (ps_if (pt_cmpR op_eq (pv 1) (pe_gi rfl T.i_ELIGIBLE_ROUTES) (nomark _)) (pss_one (ps_ret (pe_cl (ok_eligs T TB1) (hr.mono (by decide)) rfl T.g_eligible_routes (pa_cons (pv 0) (pa_cons (pe_ix ix_list (pv 2) pe_int (fun _ _ => rfl)) (pa_cons (pe_ix ix_list (pv 2) pe_int (fun _ _ => rfl)) (pa_cons (pe_ix ix_list (pv 2) pe_int (fun _ _ => rfl)) pa_nil))))))) pss_nil)
    (pss_cons (ps_if (pt_cmpR op_eq (pv 1) (pe_gi rfl T.i_ROUTING_TABLE) (nomark _)) (pss_one (ps_ret (pe_cl (ok_rtable T TB1) (hr.mono (by decide)) rfl T.g_routing_table (pa_cons (pv 0) (pa_cons (pe_ix ix_list (pv 2) pe_int (fun _ _ => rfl)) pa_nil))))) pss_nil)
    (pss_cons (ps_if (pt_cmpR op_eq (pv 1) (pe_gi rfl T.i_LOOKUP) (nomark _)) (pss_one (ps_ret (pe_cl (ok_lookup T TB1 TB2) (hr.mono (by decide)) rfl T.g_lookup (pa_cons (pv 0) (pa_cons (pe_ix ix_list (pv 2) pe_int (fun _ _ => rfl)) (pa_cons (pe_ix ix_list (pv 2) pe_int (fun _ _ => rfl)) pa_nil)))))) pss_nil)
    (pss_cons (ps_if (pt_cmpR op_eq (pv 1) (pe_gi rfl T.i_REACHABLE_ADDRESSES) (nomark _)) (pss_one (ps_ret (pe_cl (ok_reach T TB1 TB2) (hr.mono (by decide)) rfl T.g_reachable_addresses (pa_cons (pv 0) (pa_cons (pe_ix ix_list (pv 2) pe_int (fun _ _ => rfl)) pa_nil))))) pss_nil)
    (pss_cons (ps_if (pt_cmpR op_eq (pv 1) (pe_gi rfl T.i_USERS_OF) (nomark _)) (pss_one (ps_ret (pe_cl (ok_users T TB1) (hr.mono (by decide)) rfl T.g_users_of (pa_cons (pv 0) (pa_cons (pe_ix ix_list (pv 2) pe_int (fun _ _ => rfl)) pa_nil))))) pss_nil)
    (pss_cons (ps_if (pt_cmpR op_eq (pv 1) (pe_gi rfl T.i_PREVIEW_WITHDRAW) (nomark _)) (pss_one (ps_ret (pe_cl (ok_prev T TB1) (hr.mono (by decide)) rfl T.g_preview_withdraw (pa_cons (pv 0) (pa_cons (pe_ix ix_list (pv 2) pe_int (fun _ _ => rfl)) (pa_cons (pe_ix ix_list (pv 2) pe_int (fun _ _ => rfl)) (pa_cons (pe_ix ix_list (pv 2) pe_int (fun _ _ => rfl)) pa_nil))))))) pss_nil)
    (pss_cons (ps_if (pt_cmpR op_eq (pv 1) (pe_gi rfl T.i_WITHDRAW_ALL) (nomark _)) (pss_one (ps_ret (pe_cl (ok_wall T TB1) (hr.mono (by decide)) rfl T.g_withdraw_all (pa_cons (pv 0) (pa_cons (pe_ix ix_list (pv 2) pe_int (fun _ _ => rfl)) pa_nil))))) pss_nil)
    (pss_cons (ps_if (pt_cmpR op_eq (pv 1) (pe_gi rfl T.i_ANNOUNCED_PREFIXES) (nomark _)) (pss_one (ps_ret (pe_cl (ok_annp T) (hr.mono (by decide)) rfl T.g_announced_prefixes (pa_cons (pv 0) pa_nil)))) pss_nil)
    (pss_cons (ps_if (pt_cmpR op_eq (pv 1) (pe_gi rfl T.i_MEMBER_ROUTES) (nomark _)) (pss_one (ps_ret (pe_cl (ok_mroutes T) (hr.mono (by decide)) rfl T.g_member_routes (pa_cons (pv 0) (pa_cons (pe_ix ix_list (pv 2) pe_int (fun _ _ => rfl)) pa_nil))))) pss_nil)
    (pss_cons (ps_if (pt_cmpR op_eq (pv 1) (pe_gi rfl T.i_MEMBER_POLICY) (nomark _)) (pss_one (ps_ret (pe_cl (ok_mpolicy T) (hr.mono (by decide)) rfl T.g_member_policy (pa_cons (pv 0) (pa_cons (pe_ix ix_list (pv 2) pe_int (fun _ _ => rfl)) pa_nil))))) pss_nil)
    (pss_one ps_never)))))))))))))))))), ?_⟩)
  · obtain ⟨L, s, g, q, i, ns, ps, rfl, _⟩ := h
    rfl
  · obtain ⟨L, s, g, q, i, ns, ps, rfl, hs, wf, tabs, i1, i18, hl, hg, hq, h⟩ := h
    have hi : i = 1 ∨ i = 2 ∨ i = 3 ∨ i = 4 ∨ i = 5 ∨ i = 6 ∨ i = 7 ∨ i = 8 ∨ i = 9 ∨ i = 10 ∨ i = 11 ∨ i = 12 ∨ i = 13 ∨ i = 14 ∨ i = 15 ∨ i = 16 ∨ i = 17 := by omega
    rcases hi with rfl | rfl | rfl | rfl | rfl | rfl | rfl | rfl | rfl | rfl | rfl | rfl | rfl | rfl | rfl | rfl | rfl
    · obtain ⟨a, rfl⟩ := len_1 hl
      exact ⟨_, rfl, rfl, _, rfl, eq_step rfl ⟨_, rfl, _, rfl, _, _, _, _, rfl, rfl, SqL.of hg, atI_nat (j := 0) rfl, L, s, q, a, rfl, hs, wf, tabs, h.mono (by simp)⟩⟩
    · obtain ⟨a, b, c, rfl⟩ := len_3 hl
      exact ⟨_, rfl, rfl, _, rfl, ne_step (by decide) ⟨_, rfl, rfl, _, rfl, eq_step rfl ⟨_, rfl, _, rfl, _, _, _, _, rfl, rfl, SqL.of hg, atI_nat (j := 0) rfl, _, rfl, _, _, _, _, rfl, rfl, SqL.of hg, atI_nat (j := 1) rfl, _, rfl, _, _, _, _, rfl, rfl, SqL.of hg, atI_nat (j := 2) rfl, _, rfl, L, s, q, a, b, c, ps, rfl, hs, wf, tabs, hq, h.mono (by simp)⟩⟩⟩
    · obtain ⟨a, b, c, rfl⟩ := len_3 hl
      exact ⟨_, rfl, rfl, _, rfl, ne_step (by decide) ⟨_, rfl, rfl, _, rfl, ne_step (by decide) ⟨_, rfl, rfl, _, rfl, eq_step rfl ⟨_, rfl, _, rfl, _, _, _, _, rfl, rfl, SqL.of hg, atI_nat (j := 0) rfl, _, rfl, _, _, _, _, rfl, rfl, SqL.of hg, atI_nat (j := 1) rfl, _, rfl, _, _, _, _, rfl, rfl, SqL.of hg, atI_nat (j := 2) rfl, L, s, q, a, b, c, rfl, hs, wf, tabs, h.mono (by simp)⟩⟩⟩⟩
    · obtain ⟨a, b, c, rfl⟩ := len_3 hl
      exact ⟨_, rfl, rfl, _, rfl, ne_step (by decide) ⟨_, rfl, rfl, _, rfl, ne_step (by decide) ⟨_, rfl, rfl, _, rfl, ne_step (by decide) ⟨_, rfl, rfl, _, rfl, eq_step rfl ⟨_, rfl, _, rfl, _, _, _, _, rfl, rfl, SqL.of hg, atI_nat (j := 0) rfl, _, rfl, _, _, _, _, rfl, rfl, SqL.of hg, atI_nat (j := 1) rfl, _, rfl, _, _, _, _, rfl, rfl, SqL.of hg, atI_nat (j := 2) rfl, L, s, q, a, b, c, rfl, hs, wf, tabs, h⟩⟩⟩⟩⟩
    · obtain ⟨a, b, c, rfl⟩ := len_3 hl
      exact ⟨_, rfl, rfl, _, rfl, ne_step (by decide) ⟨_, rfl, rfl, _, rfl, ne_step (by decide) ⟨_, rfl, rfl, _, rfl, ne_step (by decide) ⟨_, rfl, rfl, _, rfl, ne_step (by decide) ⟨_, rfl, rfl, _, rfl, eq_step rfl ⟨_, rfl, _, rfl, _, _, _, _, rfl, rfl, SqL.of hg, atI_nat (j := 0) rfl, _, rfl, _, _, _, _, rfl, rfl, SqL.of hg, atI_nat (j := 1) rfl, _, rfl, _, _, _, _, rfl, rfl, SqL.of hg, atI_nat (j := 2) rfl, L, s, q, a, b, c, rfl, hs, wf, tabs, h⟩⟩⟩⟩⟩⟩
    · obtain ⟨a, b, c, rfl⟩ := len_3 hl
      exact ⟨_, rfl, rfl, _, rfl, ne_step (by decide) ⟨_, rfl, rfl, _, rfl, ne_step (by decide) ⟨_, rfl, rfl, _, rfl, ne_step (by decide) ⟨_, rfl, rfl, _, rfl, ne_step (by decide) ⟨_, rfl, rfl, _, rfl, ne_step (by decide) ⟨_, rfl, rfl, _, rfl, eq_step rfl ⟨_, rfl, _, rfl, _, _, _, _, rfl, rfl, SqL.of hg, atI_nat (j := 0) rfl, _, rfl, _, _, _, _, rfl, rfl, SqL.of hg, atI_nat (j := 1) rfl, _, rfl, _, _, _, _, rfl, rfl, SqL.of hg, atI_nat (j := 2) rfl, L, s, q, a, b, c, rfl, hs, wf, tabs, h⟩⟩⟩⟩⟩⟩⟩
    · obtain ⟨a, b, c, rfl⟩ := len_3 hl
      exact ⟨_, rfl, rfl, _, rfl, ne_step (by decide) ⟨_, rfl, rfl, _, rfl, ne_step (by decide) ⟨_, rfl, rfl, _, rfl, ne_step (by decide) ⟨_, rfl, rfl, _, rfl, ne_step (by decide) ⟨_, rfl, rfl, _, rfl, ne_step (by decide) ⟨_, rfl, rfl, _, rfl, ne_step (by decide) ⟨_, rfl, rfl, _, rfl, eq_step rfl ⟨_, rfl, _, rfl, _, _, _, _, rfl, rfl, SqL.of hg, atI_nat (j := 0) rfl, _, rfl, _, _, _, _, rfl, rfl, SqL.of hg, atI_nat (j := 1) rfl, _, rfl, _, _, _, _, rfl, rfl, SqL.of hg, atI_nat (j := 2) rfl, L, s, q, a, b, c, rfl, hs, wf, tabs, h.mono (by simp)⟩⟩⟩⟩⟩⟩⟩⟩
    · obtain ⟨a, b, c, rfl⟩ := len_3 hl
      exact ⟨_, rfl, rfl, _, rfl, ne_step (by decide) ⟨_, rfl, rfl, _, rfl, ne_step (by decide) ⟨_, rfl, rfl, _, rfl, ne_step (by decide) ⟨_, rfl, rfl, _, rfl, ne_step (by decide) ⟨_, rfl, rfl, _, rfl, ne_step (by decide) ⟨_, rfl, rfl, _, rfl, ne_step (by decide) ⟨_, rfl, rfl, _, rfl, ne_step (by decide) ⟨_, rfl, rfl, _, rfl, eq_step rfl ⟨_, rfl, _, rfl, _, _, _, _, rfl, rfl, SqL.of hg, atI_nat (j := 0) rfl, _, rfl, _, _, _, _, rfl, rfl, SqL.of hg, atI_nat (j := 1) rfl, _, rfl, _, _, _, _, rfl, rfl, SqL.of hg, atI_nat (j := 2) rfl, L, s, q, a, b, c, rfl, hs, wf, tabs, h.mono (by simp)⟩⟩⟩⟩⟩⟩⟩⟩⟩
    · obtain ⟨a, rfl⟩ := len_1 hl
      exact ⟨_, rfl, rfl, _, rfl, ne_step (by decide) ⟨_, rfl, rfl, _, rfl, ne_step (by decide) ⟨_, rfl, rfl, _, rfl, ne_step (by decide) ⟨_, rfl, rfl, _, rfl, ne_step (by decide) ⟨_, rfl, rfl, _, rfl, ne_step (by decide) ⟨_, rfl, rfl, _, rfl, ne_step (by decide) ⟨_, rfl, rfl, _, rfl, ne_step (by decide) ⟨_, rfl, rfl, _, rfl, ne_step (by decide) ⟨_, rfl, rfl, _, rfl, eq_step rfl ⟨_, rfl, _, rfl, _, _, _, _, rfl, rfl, SqL.of hg, atI_nat (j := 0) rfl, L, s, q, a, rfl, hs, wf, tabs, h.mono (by simp)⟩⟩⟩⟩⟩⟩⟩⟩⟩⟩
    · obtain ⟨a, b, rfl⟩ := len_2 hl
      exact ⟨_, rfl, rfl, _, rfl, ne_step (by decide) ⟨_, rfl, rfl, _, rfl, ne_step (by decide) ⟨_, rfl, rfl, _, rfl, ne_step (by decide) ⟨_, rfl, rfl, _, rfl, ne_step (by decide) ⟨_, rfl, rfl, _, rfl, ne_step (by decide) ⟨_, rfl, rfl, _, rfl, ne_step (by decide) ⟨_, rfl, rfl, _, rfl, ne_step (by decide) ⟨_, rfl, rfl, _, rfl, ne_step (by decide) ⟨_, rfl, rfl, _, rfl, ne_step (by decide) ⟨_, rfl, rfl, _, rfl, eq_step rfl ⟨_, rfl, _, rfl, _, _, _, _, rfl, rfl, SqL.of hg, atI_nat (j := 0) rfl, _, rfl, _, _, _, _, rfl, rfl, SqL.of hg, atI_nat (j := 1) rfl, L, s, q, a, b, rfl, hs, wf, tabs, h.mono (by simp)⟩⟩⟩⟩⟩⟩⟩⟩⟩⟩⟩
    · obtain ⟨a, rfl⟩ := len_1 hl
      exact ⟨_, rfl, rfl, _, rfl, ne_step (by decide) ⟨_, rfl, rfl, _, rfl, ne_step (by decide) ⟨_, rfl, rfl, _, rfl, ne_step (by decide) ⟨_, rfl, rfl, _, rfl, ne_step (by decide) ⟨_, rfl, rfl, _, rfl, ne_step (by decide) ⟨_, rfl, rfl, _, rfl, ne_step (by decide) ⟨_, rfl, rfl, _, rfl, ne_step (by decide) ⟨_, rfl, rfl, _, rfl, ne_step (by decide) ⟨_, rfl, rfl, _, rfl, ne_step (by decide) ⟨_, rfl, rfl, _, rfl, ne_step (by decide) ⟨_, rfl, rfl, _, rfl, eq_step rfl ⟨_, rfl, _, rfl, _, _, _, _, rfl, rfl, SqL.of hg, atI_nat (j := 0) rfl, L, s, q, a, rfl, hs, wf, tabs, h.mono (by simp)⟩⟩⟩⟩⟩⟩⟩⟩⟩⟩⟩⟩
    · obtain ⟨a, rfl⟩ := len_1 hl
      exact ⟨_, rfl, rfl, _, rfl, ne_step (by decide) ⟨_, rfl, rfl, _, rfl, ne_step (by decide) ⟨_, rfl, rfl, _, rfl, ne_step (by decide) ⟨_, rfl, rfl, _, rfl, ne_step (by decide) ⟨_, rfl, rfl, _, rfl, ne_step (by decide) ⟨_, rfl, rfl, _, rfl, ne_step (by decide) ⟨_, rfl, rfl, _, rfl, ne_step (by decide) ⟨_, rfl, rfl, _, rfl, ne_step (by decide) ⟨_, rfl, rfl, _, rfl, ne_step (by decide) ⟨_, rfl, rfl, _, rfl, ne_step (by decide) ⟨_, rfl, rfl, _, rfl, ne_step (by decide) ⟨_, rfl, rfl, _, rfl, eq_step rfl ⟨_, rfl, _, rfl, _, _, _, _, rfl, rfl, SqL.of hg, atI_nat (j := 0) rfl, L, s, q, a, rfl, hs, wf, tabs, h.mono (by simp)⟩⟩⟩⟩⟩⟩⟩⟩⟩⟩⟩⟩⟩
    · obtain ⟨a, b, c, rfl⟩ := len_3 hl
      exact ⟨_, rfl, rfl, _, rfl, ne_step (by decide) ⟨_, rfl, rfl, _, rfl, ne_step (by decide) ⟨_, rfl, rfl, _, rfl, ne_step (by decide) ⟨_, rfl, rfl, _, rfl, ne_step (by decide) ⟨_, rfl, rfl, _, rfl, ne_step (by decide) ⟨_, rfl, rfl, _, rfl, ne_step (by decide) ⟨_, rfl, rfl, _, rfl, ne_step (by decide) ⟨_, rfl, rfl, _, rfl, ne_step (by decide) ⟨_, rfl, rfl, _, rfl, ne_step (by decide) ⟨_, rfl, rfl, _, rfl, ne_step (by decide) ⟨_, rfl, rfl, _, rfl, ne_step (by decide) ⟨_, rfl, rfl, _, rfl, ne_step (by decide) ⟨_, rfl, rfl, _, rfl, eq_step rfl ⟨_, rfl, _, rfl, _, _, _, _, rfl, rfl, SqL.of hg, atI_nat (j := 0) rfl, _, rfl, _, _, _, _, rfl, rfl, SqL.of hg, atI_nat (j := 1) rfl, _, rfl, _, _, _, _, rfl, rfl, SqL.of hg, atI_nat (j := 2) rfl, L, s, q, a, b, c, rfl, hs, wf, tabs, h.mono (by simp)⟩⟩⟩⟩⟩⟩⟩⟩⟩⟩⟩⟩⟩⟩
    · obtain ⟨a, rfl⟩ := len_1 hl
      exact ⟨_, rfl, rfl, _, rfl, ne_step (by decide) ⟨_, rfl, rfl, _, rfl, ne_step (by decide) ⟨_, rfl, rfl, _, rfl, ne_step (by decide) ⟨_, rfl, rfl, _, rfl, ne_step (by decide) ⟨_, rfl, rfl, _, rfl, ne_step (by decide) ⟨_, rfl, rfl, _, rfl, ne_step (by decide) ⟨_, rfl, rfl, _, rfl, ne_step (by decide) ⟨_, rfl, rfl, _, rfl, ne_step (by decide) ⟨_, rfl, rfl, _, rfl, ne_step (by decide) ⟨_, rfl, rfl, _, rfl, ne_step (by decide) ⟨_, rfl, rfl, _, rfl, ne_step (by decide) ⟨_, rfl, rfl, _, rfl, ne_step (by decide) ⟨_, rfl, rfl, _, rfl, ne_step (by decide) ⟨_, rfl, rfl, _, rfl, eq_step rfl ⟨_, rfl, _, rfl, _, _, _, _, rfl, rfl, SqL.of hg, atI_nat (j := 0) rfl, L, s, q, a, rfl, hs, wf, tabs, h.mono (by simp)⟩⟩⟩⟩⟩⟩⟩⟩⟩⟩⟩⟩⟩⟩⟩
    · obtain rfl : ns = [] := List.length_eq_zero_iff.mp hl
      exact ⟨_, rfl, rfl, _, rfl, ne_step (by decide) ⟨_, rfl, rfl, _, rfl, ne_step (by decide) ⟨_, rfl, rfl, _, rfl, ne_step (by decide) ⟨_, rfl, rfl, _, rfl, ne_step (by decide) ⟨_, rfl, rfl, _, rfl, ne_step (by decide) ⟨_, rfl, rfl, _, rfl, ne_step (by decide) ⟨_, rfl, rfl, _, rfl, ne_step (by decide) ⟨_, rfl, rfl, _, rfl, ne_step (by decide) ⟨_, rfl, rfl, _, rfl, ne_step (by decide) ⟨_, rfl, rfl, _, rfl, ne_step (by decide) ⟨_, rfl, rfl, _, rfl, ne_step (by decide) ⟨_, rfl, rfl, _, rfl, ne_step (by decide) ⟨_, rfl, rfl, _, rfl, ne_step (by decide) ⟨_, rfl, rfl, _, rfl, ne_step (by decide) ⟨_, rfl, rfl, _, rfl, eq_step rfl ⟨_, rfl, L, s, q, rfl, hs, wf, tabs, h.mono (by simp)⟩⟩⟩⟩⟩⟩⟩⟩⟩⟩⟩⟩⟩⟩⟩⟩
    · obtain ⟨a, rfl⟩ := len_1 hl
      exact ⟨_, rfl, rfl, _, rfl, ne_step (by decide) ⟨_, rfl, rfl, _, rfl, ne_step (by decide) ⟨_, rfl, rfl, _, rfl, ne_step (by decide) ⟨_, rfl, rfl, _, rfl, ne_step (by decide) ⟨_, rfl, rfl, _, rfl, ne_step (by decide) ⟨_, rfl, rfl, _, rfl, ne_step (by decide) ⟨_, rfl, rfl, _, rfl, ne_step (by decide) ⟨_, rfl, rfl, _, rfl, ne_step (by decide) ⟨_, rfl, rfl, _, rfl, ne_step (by decide) ⟨_, rfl, rfl, _, rfl, ne_step (by decide) ⟨_, rfl, rfl, _, rfl, ne_step (by decide) ⟨_, rfl, rfl, _, rfl, ne_step (by decide) ⟨_, rfl, rfl, _, rfl, ne_step (by decide) ⟨_, rfl, rfl, _, rfl, ne_step (by decide) ⟨_, rfl, rfl, _, rfl, ne_step (by decide) ⟨_, rfl, rfl, _, rfl, eq_step rfl ⟨_, rfl, _, rfl, _, _, _, _, rfl, rfl, SqL.of hg, atI_nat (j := 0) rfl, L, s, q, a, rfl, hs, wf, tabs, h.mono (by simp)⟩⟩⟩⟩⟩⟩⟩⟩⟩⟩⟩⟩⟩⟩⟩⟩⟩
    · obtain ⟨a, rfl⟩ := len_1 hl
      exact ⟨_, rfl, rfl, _, rfl, ne_step (by decide) ⟨_, rfl, rfl, _, rfl, ne_step (by decide) ⟨_, rfl, rfl, _, rfl, ne_step (by decide) ⟨_, rfl, rfl, _, rfl, ne_step (by decide) ⟨_, rfl, rfl, _, rfl, ne_step (by decide) ⟨_, rfl, rfl, _, rfl, ne_step (by decide) ⟨_, rfl, rfl, _, rfl, ne_step (by decide) ⟨_, rfl, rfl, _, rfl, ne_step (by decide) ⟨_, rfl, rfl, _, rfl, ne_step (by decide) ⟨_, rfl, rfl, _, rfl, ne_step (by decide) ⟨_, rfl, rfl, _, rfl, ne_step (by decide) ⟨_, rfl, rfl, _, rfl, ne_step (by decide) ⟨_, rfl, rfl, _, rfl, ne_step (by decide) ⟨_, rfl, rfl, _, rfl, ne_step (by decide) ⟨_, rfl, rfl, _, rfl, ne_step (by decide) ⟨_, rfl, rfl, _, rfl, ne_step (by decide) ⟨_, rfl, rfl, _, rfl, eq_step rfl ⟨_, rfl, _, rfl, _, _, _, _, rfl, rfl, SqL.of hg, atI_nat (j := 0) rfl, L, s, q, a, rfl, hs, wf, tabs, h.mono (by simp)⟩⟩⟩⟩⟩⟩⟩⟩⟩⟩⟩⟩⟩⟩⟩⟩⟩⟩
end
end Nhp
/-! layout.py: split_calls -/
namespace Nhp
open PySem PySem.Spec PyProof.Rows L2 LamX NdefX
theorem good_at {l : List Int} {c : List (List Int)} {t : List Int} (h : CallAt l c t) (hb : PyInside.call PySu201.bound c = true) :
    (∃ (i : Nat) (ns : List Nat) (r : List Int), GoodC c i ns [] ∧ i ≠ 2 ∧ l = (i : Int) :: r ∧ cnt i ≤ r.length ∧ r.take (cnt i) = ns.map (fun (n : Nat) => (n : Int)) ∧ t = r.drop (cnt i)) ∨
    (∃ (ns ps : List Nat) (r r2 : List Int) (m : Nat), GoodC c 2 ns ps ∧ l = 2 :: r ∧ 3 ≤ r.length ∧ r.take 3 = ns.map (fun (n : Nat) => (n : Int)) ∧ r.drop 3 = (m : Int) :: r2 ∧ m ≤ r2.length ∧ r2.take m = ps.map (fun (n : Nat) => (n : Int)) ∧ t = r2.drop m) := by
  obtain ⟨i', ns, ps, g⟩ := good_of h hb
  have gc := g.c
  cases h with
  | plain i r hi h2 e hn hc ht =>
    rw [hc] at gc
    by_cases c2 : i' = 2
    · rw [if_pos c2] at gc
      cases (List.cons.inj gc).2
    · rw [if_neg c2] at gc
      have z := List.cons.inj (List.cons.inj gc).1
      have ei : i = i' := by have := z.1; omega
      subst ei
      have p0 := g.noP c2
      subst p0
      exact .inl ⟨i, ns, r, g, h2, e, hn, z.2, ht⟩
  | row r r2 m e hn er hm hc ht =>
    rw [hc] at gc
    by_cases c2 : i' = 2
    · subst c2
      rw [if_pos rfl] at gc
      have z := List.cons.inj gc
      exact .inr ⟨ns, ps, r, r2, m, g, e, hn, (List.cons.inj z.1).2, er, hm, (List.cons.inj z.2).1, ht⟩
    · rw [if_neg c2] at gc
      cases (List.cons.inj gc).2
theorem cut_is {l : List Int} {a b : Nat} {i j : Int} (hi : i = a) (hj : j = b) (h1 : a ≤ b) (h2 : b ≤ l.length) : cutV (l.map V.int) (some i) (some j) = ((l.drop a).take (b - a)).map V.int := by
  subst hi
  subst hj
  unfold cutV HT.sIx
  have ea : (if (a : Int) < 0 then ((a : Int) + ((l.map V.int).length : Int)).toNat else min (a : Int).toNat (l.map V.int).length) = a := by
    rw [if_neg (by omega), Int.toNat_natCast, List.length_map]
    omega
  have eb : (if (b : Int) < 0 then ((b : Int) + ((l.map V.int).length : Int)).toNat else min (b : Int).toNat (l.map V.int).length) = b := by
    rw [if_neg (by omega), Int.toNat_natCast, List.length_map]
    omega
  simp only [ea, eb]
  rw [List.map_take, List.map_drop]
theorem drop_cons {l : List Int} {n : Nat} {p : Int} {r : List Int} (h : l.drop n = p :: r) : n < l.length ∧ l[n]? = some p ∧ l.drop (n + 1) = r ∧ l.length = n + 1 + r.length := by
  have hl : n < l.length := by
    rcases Nat.lt_or_ge n l.length with c | c
    · exact c
    · rw [List.drop_eq_nil_of_le c] at h
      cases h
  have e := List.drop_eq_getElem_cons hl
  rw [h] at e
  have z := List.cons.inj e
  refine ⟨hl, by rw [List.getElem?_eq_getElem hl, ← z.1], z.2.symm, ?_⟩
  have := congrArg List.length h
  rw [List.length_drop, List.length_cons] at this
  omega
def Ent (F : Addr) (H H' : Hp) (t : Addr) (cc : List (List Int)) : Prop := ∃ (i : Nat) (ns ps : List Nat) (g q : Addr), GoodC cc i ns ps ∧ H' t = some (.tup [nV i, .ref g, .ref q]) ∧ H' g = some (.lst (nsV ns)) ∧ H' q = some (.lst (nsV ps)) ∧ Nw H g ∧ Nw H q ∧ g ≠ F ∧ q ≠ F
theorem Ent.ex {T : List (Addr × Str)} {F : Addr} {H H' H2 : Hp} {t : Addr} {cc : List (List Int)} (h : Ent F H H' t cc) (e : Ex T H' H2) : Ent F H H2 t cc := by
  obtain ⟨i, ns, ps, g, q, h0, h1, h2, h3, h4⟩ := h
  exact ⟨i, ns, ps, g, q, h0, e.at_ h1, e.at_ h2, e.at_ h3, h4⟩
theorem Ent.put {F : Addr} {H H' : Hp} {t : Addr} {cc : List (List Int)} {xs ys : List V} (h : Ent F H H' t cc) (hF : H' F = some (.lst xs)) : Ent F H (upd H' F (.lst ys)) t cc := by
  obtain ⟨i, ns, ps, g, q, h0, h1, h2, h3, h4, h5, h6, h7⟩ := h
  exact ⟨i, ns, ps, g, q, h0, (upd_ne (ne_of h1 hF (by intro z; cases z))).trans h1, (upd_ne h6).trans h2, (upd_ne h7).trans h3, h4, h5, h6, h7⟩
section
variable {P : Program} {w : World} {K : PySem.W.Frag} {mg : Str → Option Value} {base : Heap}
theorem ent_step {F t g q : Addr} {H H4 : Hp} {cc : List (List Int)} {ts : List Addr} {done : List (List (List Int))} {i : Nat} {ns ps : List Nat} (e : Ex (Tl K) H H4) (nF : H F = none) (hF : H4 F = some (.lst (ts.map V.ref))) (pr : Paired (Ent F H H4) ts done) (nt : H4 t = none) (gc : GoodC cc i ns ps)
    (hg : H4 g = some (.lst (nsV ns))) (hq : H4 q = some (.lst (nsV ps))) (ng : Nw H g) (nq : Nw H q) (gF : g ≠ F) (qF : q ≠ F) (hl : done.length ≤ 400) :
    upd H4 t (.tup [nV i, .ref g, .ref q]) F = some (.lst (ts.map V.ref)) ∧ (ts.map V.ref).length < sizeLine ∧ Ex (Tl K) H (upd (upd H4 t (.tup [nV i, .ref g, .ref q])) F (.lst (ts.map V.ref ++ [V.ref t]))) ∧
      upd (upd H4 t (.tup [nV i, .ref g, .ref q])) F (.lst (ts.map V.ref ++ [V.ref t])) F = some (.lst ((ts ++ [t]).map V.ref)) ∧ Paired (Ent F H (upd (upd H4 t (.tup [nV i, .ref g, .ref q])) F (.lst (ts.map V.ref ++ [V.ref t])))) (ts ++ [t]) (done ++ [cc]) := by
  have hF2 : upd H4 t (.tup [nV i, .ref g, .ref q]) F = some (.lst (ts.map V.ref)) := (upd_ne (ne_of_none hF nt)).trans hF
  refine ⟨hF2, Nat.lt_of_lt_of_le (by rw [List.length_map, pr.length]; omega : _ < 401) (line_le (by decide)), ex_put (e.trans (exN nt)) nF hF2, by rw [upd_same, List.map_append]; rfl, ?_⟩
  have en : Ent F H (upd H4 t (.tup [nV i, .ref g, .ref q])) t cc := ⟨i, ns, ps, g, q, gc, upd_same, same_new nt _ _ hg, same_new nt _ _ hq, ng, nq, gF, qF⟩
  exact paired_snoc (paired_imp pr fun a b z => (z.ex (exN (T := Tl K) nt)).put hF2) (en.put hF2)
def spSplit (K : PySem.W.Frag) : Sp := fun vs H Q _ => ∃ (c : Addr) (l : List Int) (raw : List (List (List Int))), vs = [.ref c] ∧ SqL K H c (l.map V.int) ∧ PyFlat.calls PySu201.shape l.length l = some raw ∧ (∀ cc ∈ raw, PyInside.call PySu201.bound cc = true) ∧ raw.length ≤ 400 ∧
  ∀ H' p (ts : List Addr), Ex (Tl K) H H' → Nw H p → H' p = some (.lst (ts.map V.ref)) → Paired (Ent p H H') ts raw → Q (.ref p) H'
theorem counts_at : ∀ i, i < 18 → Nhp.counts[i]? = some ((cnt i : Nat) : Int) := by decide
theorem cnts_at {i : Nat} (h : i < 18) : (Nhp.counts.map V.int)[i]? = some (nV (cnt i)) := by rw [List.getElem?_map, counts_at i h]; rfl
theorem int_at {l : List Int} {n : Nat} {p : Int} (h : l[n]? = some p) : (l.map V.int)[n]? = some (V.int p) := by rw [List.getElem?_map, h]; rfl
theorem ne_step1 {i : Nat} {j : Int} (h : (i : Int) ≠ j) {A B : Prop} (b : B) : if decide (nV i = V.int j) = true then A else B := by
  rw [decide_eq_false (fun e => h (V.int.inj e))]
  exact iteF b
theorem eq_step2 {i j : Int} (h : i = j) {A B : Prop} (a : A) : if decide (V.int i = V.int j) = true then A else B := by
  rw [decide_eq_true (congrArg V.int h)]
  exact iteT a
theorem sc_split : FnScope ["calls", "found", "place", "number", "first", "arguments", "as_path"] ["calls"] (defScope s_split_calls) := ⟨rfl, rfl, rfl, by decide +kernel, rfl, by decide +kernel, by decide +kernel⟩
theorem ok_split (T : Txt K mg) : Ok P w K mg base 1 (He.ga K "split_calls") ["calls"] (spSplit K) := by
  refine ok_of T.d_split_calls sc_split (fun vs H Q E h => ?_) (fun _ _ _ _ _ _ us hl => match us, hl with | [_], _ => rfl) (fun cdv A outer s H vs Q E hr h => ⟨_,
    pss_cons (ps_set (i := 1) sc_split.nd rfl (.inl rfl) (pe_lst pa_nil))
    (pss_cons (ps_set (i := 2) sc_split.nd rfl (.inl rfl) pe_int)
    (pss_cons (ps_while PassesOwn.never (pt_cmpR op_lt (pv 2) (pe_callB call_len_seq rfl T.n_len PySem.boot_len (pa_cons (pv 0) pa_nil)) (nomark _))
      (pss_cons (ps_set (i := 3) sc_split.nd rfl (.inl rfl) (pe_ix ix_list (pv 0) (pv 2) (fun _ _ => rfl)))
      (pss_cons (ps_set (i := 4) sc_split.nd rfl (.inl rfl) (pe_op op_add (pv 2) pe_int))
      (pss_cons (ps_set (i := 2) sc_split.nd rfl (.inl rfl) (pe_op op_add (pv 4) (pe_ix ix_tup (pe_glob (v := .ref (He.ga K "ARGUMENT_COUNTS")) rfl T.g_ARGUMENT_COUNTS rfl) (pv 3) (fun _ _ => rfl))))
      (pss_cons (ps_set (i := 5) sc_split.nd rfl (.inl rfl) (pe_slice sl_list (pv 0) (po_some (pv 4)) (po_some (pv 2))))
      (pss_cons (ps_set (i := 6) sc_split.nd rfl (.inl rfl) (pe_lst pa_nil))
      (pss_cons (ps_if (pt_cmpR op_eq (pv 3) (pe_gi rfl T.i_ANNOUNCE) (nomark _))
        (pss_cons (ps_set (i := 4) sc_split.nd rfl (.inl rfl) (pe_op op_add (pv 2) pe_int))
        (pss_cons (ps_set (i := 2) sc_split.nd rfl (.inl rfl) (pe_op op_add (pv 4) (pe_ix ix_list (pv 0) (pv 2) (fun _ _ => rfl))))
        (pss_one (ps_set (i := 6) sc_split.nd rfl (.inl rfl) (pe_slice sl_list (pv 0) (po_some (pv 4)) (po_some (pv 2))))))) pss_nil)
      (pss_one (ps_expr (pe_bm PySem.F.plainAttrs_list PySem.F.slot_list_append PySem.F.type_list_append mt_append (pv 1) (pa_cons (pe_tup (pa_cons (pv 3) (pa_cons (pv 5) (pa_cons (pv 6) pa_nil)))) pa_nil)))))))))))
    (pss_one (ps_ret (pv 1))))), ?_⟩)
  · obtain ⟨c, l, raw, rfl, _⟩ := h
    rfl
  · obtain ⟨c, l, raw, rfl, hc, hraw, hin, h400, h⟩ := h
    refine ⟨by show 0 ≤ sizeLine; decide, fun F nF => ?_⟩
    refine while_by (fun (σ : L2.St) (H' : Hp) => ∃ (done rest : List (List (List Int))) (pl f : Nat) (pi : Int) (ts : List Addr) (a b d e : Option V), raw = done ++ rest ∧ pi = pl ∧ pl ≤ l.length ∧ PyFlat.calls PySu201.shape f (l.drop pl) = some rest ∧ σ = [some (.ref c), some (.ref F), some (.int pi), a, b, d, e] ∧ Ex (Tl K) H H' ∧ H' F = some (.lst (ts.map V.ref)) ∧ Paired (Ent F H H') ts done)
      (fun (σ : L2.St) (_ : Hp) => match σ[2]? with | some (some (V.int i)) => l.length - i.toNat | _ => 0) ⟨[], raw, 0, l.length, 0, [], _, _, _, _, rfl, rfl, Nat.zero_le _, hraw, rfl, exN nF, upd_same, .nil⟩ ?_ ?_
    · rintro σ H1 ⟨done, rest, pl, f, pi, ts, a, b, d, e, eraw, rfl, hpl, hcalls, rfl, ex, hF, pr⟩
      have hc1 := ex.seq hc
      refine ⟨_, rfl, _, rfl, _, _, rfl, .inl hc1, _, _, rfl, rfl, _, rfl, ?_⟩
      by_cases c1 : pl < l.length
      rotate_left
      · rw [decide_eq_false (show ¬ (pl : Int) < ((l.map V.int).length : Int) by rw [List.length_map]; omega)]
        refine iteF ⟨_, rfl, h H1 F ts ex (.inl nF) hF ?_⟩
        rw [List.drop_eq_nil_of_le (by omega)] at hcalls
        have := calls_nil hcalls
        rw [eraw, this, List.append_nil]
        exact pr
      rw [decide_eq_true (show (pl : Int) < ((l.map V.int).length : Int) by rw [List.length_map]; omega)]
      refine iteT ?_
      obtain ⟨p, r, hd⟩ : ∃ p r, l.drop pl = p :: r := ⟨_, _, List.drop_eq_getElem_cons c1⟩
      rw [hd] at hcalls
      obtain ⟨f', cc, cs, t, er, hcs, hat⟩ := calls_step hcalls
      have hcc : cc ∈ raw := by rw [eraw, er]; exact List.mem_append_right _ (List.mem_cons_self ..)
      have dl : done.length ≤ 400 := by
        have := congrArg List.length eraw
        rw [List.length_append] at this
        omega
      obtain ⟨_, hat1, hdr, hlen⟩ := drop_cons hd
      have F1 : ∀ {b : Addr} {o : HO} {Hx : Hp}, Hx F = some o → Hx b = none → b ≠ F := fun {b o Hx} h1 h2 => (ne_of_none h1 h2).symm
      rcases good_at hat (hin cc hcc) with ⟨i, ns, r', g, h2, el, hn, tk, ht⟩ | ⟨ns, ps, r', r2, m, g, el, hn, tk, er2, hm, tk2, ht⟩
      · obtain ⟨e1, e2⟩ := List.cons.inj el
        subst e1
        subst e2
        refine ⟨_, rfl, _, rfl, _, _, _, _, rfl, rfl, hc1, atI_nat (int_at hat1), _, rfl, _, _, rfl, rfl, _, rfl, _, rfl, _, _, _, _, rfl, rfl, T.counts H1, atI_nat (cnts_at g.hi), _, _, rfl, rfl, ?_⟩
        have cg : cutV (l.map V.int) (some ((pl : Int) + 1)) (some ((pl : Int) + 1 + (cnt i : Nat))) = nsV ns := by
          rw [cut_is (a := pl + 1) (b := pl + 1 + cnt i) (by omega) (by omega) (by omega) (by omega), hdr, Nat.add_sub_cancel_left, tk, nsV_ints]
        refine ⟨_, rfl, _, rfl, _, rfl, _, rfl, _, rfl, c, l.map V.int, rfl, hc1, fun q1 nq1 => ?_⟩
        rw [cg]
        have x1 : Ex (Tl K) H1 (upd H1 q1 (.lst (nsV ns))) := exN nq1
        refine ⟨by show 0 ≤ sizeLine; decide, fun q2 nq2 => ?_⟩
        have x2 : Ex (Tl K) H1 (upd (upd H1 q1 (.lst (nsV ns))) q2 (.lst [])) := x1.trans (exN nq2)
        refine ⟨_, rfl, rfl, _, rfl, ne_step1 (fun e => h2 (by omega)) ?_⟩
        refine ⟨_, rfl, .inl ⟨rfl, _, SqL.of (x2.at_ hF)⟩, _, rfl, _, rfl, _, rfl, by show 3 ≤ sizeLine; decide, fun t1 nt1 => ?_⟩
        have g1 : upd (upd H1 q1 (.lst (nsV ns))) q2 (.lst []) q1 = some (.lst (nsV ns)) := same_new nq2 _ _ upd_same
        obtain ⟨s1, s2, s3, s4, s5⟩ := ent_step (ex.trans x2) nF (x2.at_ hF) (paired_imp pr fun a b z => z.ex x2) nt1 g g1 upd_same (nw_ex ex (.inl nq1)) (nw_ex (ex.trans x1) (.inl nq2)) (F1 hF nq1) (F1 (x1.at_ hF) nq2) dl
        refine ⟨_, _, _, rfl, rfl, s1, s2, ⟨done ++ [cc], cs, pl + 1 + cnt i, f', _, ts ++ [t1], _, _, _, _, ?_, ?_, ?_, ?_, rfl, s3, s4, s5⟩, ?_⟩
        · rw [eraw, er, List.append_assoc]; rfl
        · show ((pl : Int) + 1 + (cnt i : Nat)) = _
          omega
        · omega
        · rw [← List.drop_drop, hdr, ← ht]
          exact hcs
        · show l.length - ((pl : Int) + 1 + (cnt i : Nat)).toNat < l.length - (pl : Int).toNat
          omega
      · obtain ⟨e1, e2⟩ := List.cons.inj el
        subst e1
        subst e2
        have hd4 : l.drop (pl + 1 + 3) = (m : Int) :: r2 := by rw [← List.drop_drop, hdr, er2]
        obtain ⟨_, hat4, hdr4, hlen4⟩ := drop_cons hd4
        refine ⟨_, rfl, _, rfl, _, _, _, _, rfl, rfl, hc1, atI_nat (int_at hat1), _, rfl, _, _, rfl, rfl, _, rfl, _, rfl, _, _, _, _, rfl, rfl, T.counts H1, atI_nat (j := 2) (cnts_at (by decide)), _, _, rfl, rfl, ?_⟩
        have c3 : cnt 2 = 3 := rfl
        rw [c3]
        have cg : cutV (l.map V.int) (some ((pl : Int) + 1)) (some ((pl : Int) + 1 + ((3 : Nat) : Int))) = nsV ns := by
          rw [cut_is (a := pl + 1) (b := pl + 1 + 3) (by omega) (by omega) (by omega) (by omega), hdr, Nat.add_sub_cancel_left, tk, nsV_ints]
        refine ⟨_, rfl, _, rfl, _, rfl, _, rfl, _, rfl, c, l.map V.int, rfl, hc1, fun q1 nq1 => ?_⟩
        rw [cg]
        have x1 : Ex (Tl K) H1 (upd H1 q1 (.lst (nsV ns))) := exN nq1
        refine ⟨by show 0 ≤ sizeLine; decide, fun q2 nq2 => ?_⟩
        have x2 : Ex (Tl K) H1 (upd (upd H1 q1 (.lst (nsV ns))) q2 (.lst [])) := x1.trans (exN nq2)
        have hc2 := x2.seq hc1
        refine ⟨_, rfl, rfl, _, rfl, eq_step2 rfl ?_⟩
        have hat5 : atI (l.map V.int) ((pl : Int) + 1 + ((3 : Nat) : Int)) = some (V.int (m : Int)) := by
          have z : atI (l.map V.int) ((pl + 1 + 3 : Nat) : Int) = some (V.int (m : Int)) := atI_nat (int_at hat4)
          have e : ((pl + 1 + 3 : Nat) : Int) = (pl : Int) + 1 + ((3 : Nat) : Int) := by omega
          rw [e] at z
          exact z
        refine ⟨_, rfl, _, _, rfl, rfl, _, rfl, _, rfl, _, rfl, _, _, _, _, rfl, rfl, hc2, hat5, _, _, rfl, rfl, ?_⟩
        have cg2 : cutV (l.map V.int) (some ((pl : Int) + 1 + ((3 : Nat) : Int) + 1)) (some ((pl : Int) + 1 + ((3 : Nat) : Int) + 1 + (m : Int))) = nsV ps := by
          rw [cut_is (a := pl + 1 + 3 + 1) (b := pl + 1 + 3 + 1 + m) (by omega) (by omega) (by omega) (by omega), hdr4, Nat.add_sub_cancel_left, tk2, nsV_ints]
        refine ⟨_, rfl, _, rfl, _, rfl, _, rfl, _, rfl, c, l.map V.int, rfl, hc2, fun q3 nq3 => ?_⟩
        rw [cg2]
        have x3 : Ex (Tl K) H1 (upd (upd (upd H1 q1 (.lst (nsV ns))) q2 (.lst [])) q3 (.lst (nsV ps))) := x2.trans (exN nq3)
        refine ⟨_, rfl, .inl ⟨rfl, _, SqL.of (x3.at_ hF)⟩, _, rfl, _, rfl, _, rfl, by show 3 ≤ sizeLine; decide, fun t1 nt1 => ?_⟩
        have g1 : upd (upd (upd H1 q1 (.lst (nsV ns))) q2 (.lst [])) q3 (.lst (nsV ps)) q1 = some (.lst (nsV ns)) := same_new nq3 _ _ (same_new nq2 _ _ upd_same)
        obtain ⟨s1, s2, s3, s4, s5⟩ := ent_step (ex.trans x3) nF (x3.at_ hF) (paired_imp pr fun a b z => z.ex x3) nt1 g g1 upd_same (nw_ex ex (.inl nq1)) (nw_ex (ex.trans x2) (.inl nq3)) (F1 hF nq1) (F1 (x2.at_ hF) nq3) dl
        refine ⟨_, _, _, rfl, rfl, s1, s2, ⟨done ++ [cc], cs, pl + 1 + 3 + 1 + m, f', _, ts ++ [t1], _, _, _, _, ?_, ?_, ?_, ?_, rfl, s3, s4, s5⟩, ?_⟩
        · rw [eraw, er, List.append_assoc]; rfl
        · show ((pl : Int) + 1 + ((3 : Nat) : Int) + 1 + (m : Int)) = _
          omega
        · omega
        · rw [← List.drop_drop, hdr4, ← ht]
          exact hcs
        · show l.length - ((pl : Int) + 1 + ((3 : Nat) : Int) + 1 + (m : Int)).toNat < l.length - (pl : Int).toNat
          omega
    · rintro σ H1 Q1 Q2 mono ⟨v, hv, v', hv', p, ys, e1, e2, i, j, e3, e4, k, e5, hQ⟩
      exact ⟨v, hv, v', hv', p, ys, e1, e2, i, j, e3, e4, k, e5, mono _ _ hQ⟩
end
end Nhp
/-! exchange.py: answers -/
namespace Nhp
open PySem PySem.Spec PyProof.Rows L2 LamX NdefX
def NoQ (K : PySem.W.Frag) (H : Hp) (L : SA) (A : Addr) : Prop := ∀ a ∈ L.rs, ∀ dx r q, H a = some (.ins (cR K) dx (rF r q)) → q ≠ A
def StAt (K : PySem.W.Frag) (H1 H : Hp) (A : Addr) (v : V) (st : Option Su201.RouteServer) : Prop := match st with
  | none => v = .non
  | some s => ∃ L : SA, v = .ref L.a ∧ SrvAt K H L s ∧ Wf s ∧ (∀ b ∈ foot L, Nw H1 b) ∧ NoQ K H L A
def spAnswers (K : PySem.W.Frag) : Sp := fun vs H Q _ => ∃ (c : Addr) (l : List Int), vs = [.ref c] ∧ SqL K H c (l.map V.int) ∧ PySu201.answers_asked l = true ∧ Tabs (Tl K) H ∧
  ∀ H' p, H' p = some (.lst ((PySu201.answers l).map V.int)) → Q (.ref p) H'
section
variable {T : List (Addr × Str)} {F : List Addr} {H H0 H1 H2 H5 H6 H' : Hp} {K : PySem.W.Frag} {A : Addr}
theorem rF_inj {r r' : Su201.Route} {q q' : Addr} (e : rF r q = rF r' q') : q = q' := by
  unfold rF at e
  simp only [List.cons.injEq, Prod.mk.injEq, V.ref.injEq, true_and, and_true] at e
  exact e.2.2.2
theorem keep_comp (k : Keep T [A] H1 H') (k2 : Keep T F H' H5) (hf : ∀ f ∈ F, Nw H1 f) : Keep T [A] H1 H5 :=
  ⟨fun b o hb n m => k2.k b o (k.k b o hb n m) n fun z => (hf b z).ne hb n rfl, fun b o hb n => by
    obtain ⟨o', h', n'⟩ := k.s b o hb n
    exact k2.s b o' h' n', fun h => k2.t (k.t h)⟩
/-- the answers' list grows: the server stays -/
theorem srv_ans {L : SA} {s : Su201.RouteServer} {xs : List V} (h : SrvAt K H5 L s) (k : Keep T [A] H5 H6) (hA : H5 A = some (.lst xs)) (nf : ∀ b ∈ foot L, b ≠ A) (nq : NoQ K H5 L A) : SrvAt K H6 L s ∧ NoQ K H6 L A := by
  have m : ∀ {b : Addr}, b ∈ foot L → b ∉ [A] := fun hb => not1 (nf _ hb)
  have ai : ∀ {b C dx : Addr} {fs : List (Str × V)}, H5 b = some (.ins C dx fs) → b ∉ [A] := fun hb => not1 (ne_of hb hA (by intro z; cases z))
  refine ⟨⟨k.at_ h.o (m (List.mem_cons_self ..)), k.at_ h.ml (m (List.mem_cons_of_mem _ (List.mem_cons_self ..))), k.at_ h.rl (m (List.mem_cons_of_mem _ (List.mem_cons_of_mem _ (List.mem_cons_self ..)))), ?_, ?_, h.ne, h.nd⟩, ?_⟩
  · refine paired_mem h.mem fun x y hx _ z => ?_
    obtain ⟨h1, h2, h3⟩ := ds_mem hx
    have md : ∀ {d : Addr}, d ∈ dsOf L.ms → d ∉ [A] := fun hd => m (List.mem_cons_of_mem _ (List.mem_cons_of_mem _ (List.mem_cons_of_mem _ hd)))
    exact z.keep k (ai z.o) (md h1) (md h2) (md h3)
  · refine paired_mem h.rou fun a r ha _ z => ?_
    obtain ⟨dx, q, h1, h2⟩ := z
    exact RouAt.keep ⟨dx, q, h1, h2⟩ k (ai h1) fun dx' q' e => not1 (nq a ha dx' r q' e)
  · intro a ha dx r q e
    obtain ⟨r', hr', dx', q', h1, h2⟩ := paired_left h.rou a ha
    have := k.at_ h1 (ai h1)
    rw [this] at e
    have e2 := rF_inj (HO.ins.inj (Option.some.inj e)).2.2
    rw [← e2]
    exact nq a ha dx' r' q' h1
theorem step_none {i : Nat} {ns ps : List Nat} (h1 : 1 ≤ i) (h2 : i < 18) (hl : ns.length = cnt i) : Su201.step none (opOf i ns ps) = (none, Su201.error (-11)) := by
  have hi : i = 1 ∨ i = 2 ∨ i = 3 ∨ i = 4 ∨ i = 5 ∨ i = 6 ∨ i = 7 ∨ i = 8 ∨ i = 9 ∨ i = 10 ∨ i = 11 ∨ i = 12 ∨ i = 13 ∨ i = 14 ∨ i = 15 ∨ i = 16 ∨ i = 17 := by omega
  rcases hi with rfl | rfl | rfl | rfl | rfl | rfl | rfl | rfl | rfl | rfl | rfl | rfl | rfl | rfl | rfl | rfl | rfl <;>
    rcases ns with _ | ⟨a, _ | ⟨b, _ | ⟨d, _ | ⟨e, ns⟩⟩⟩⟩ <;> first | rfl | (exfalso; simp [cnt, cntL] at hl)
theorem step_reset (st : Option Su201.RouteServer) (ns ps : List Nat) (hl : ns.length = cnt 0) : Su201.step st (opOf 0 ns ps) = (some Su201.empty, Su201.ok 0 []) := by
  have : ns = [] := List.length_eq_zero_iff.mp hl
  subst this
  cases st <;> rfl
theorem grow_ans {p5 : Addr} {zs : List V} {acc : List Int} {z : V} (k : Keep T [A] H1 H5) (hA : H5 A = some (.lst (acc.map V.int))) (hp : H5 p5 = some (.lst zs)) (pA : p5 ≠ A) :
    upd H5 A (.lst (acc.map V.int ++ [z])) p5 = some (.lst zs) ∧ Keep T [A] H5 (upd (upd H5 A (.lst (acc.map V.int ++ [z]))) A (.lst ((acc.map V.int ++ [z]) ++ zs))) ∧ Keep T [A] H1 (upd (upd H5 A (.lst (acc.map V.int ++ [z]))) A (.lst ((acc.map V.int ++ [z]) ++ zs))) := by
  have k1 : Keep T [A] H5 (upd (upd H5 A (.lst (acc.map V.int ++ [z]))) A (.lst ((acc.map V.int ++ [z]) ++ zs))) := (Keep.lst hA).trans (Keep.lst upd_same)
  exact ⟨(upd_ne pA).trans hp, k1, k.trans k1⟩
theorem ans_len {l : List Int} {acc out rest : List Int} {all : List Int} (h : all.length ≤ 10000000) (e : all = acc ++ ((((out.length : Int) :: out) ++ rest))) : acc.length + 1 + out.length ≤ 10000000 := by
  rw [e] at h
  simp only [List.length_append, List.length_cons] at h
  omega
theorem big {n : Nat} (h : n ≤ 10000000) : n < sizeLine := by
  have : (10000000 : Nat) < sizeLine := by decide
  omega
end
section
variable {P : Program} {w : World} {K : PySem.W.Frag} {mg : Str → Option Value} {base : Heap}
theorem sc_answers : FnScope ["calls", "server", "answered", "number", "given", "as_path", "answer"] ["calls"] (defScope s_answers) := ⟨rfl, rfl, rfl, by decide +kernel, rfl, by decide +kernel, by decide +kernel⟩
theorem fn_at {k : Nat} {f : Addr} {fd : FuncData} {N ps : List Str} {sp : Sp} {x qual : Str} {params : Arguments} {body : List Stmt} {scope : Scope} (F : FunD K x qual params body scope [] [] f fd) (S : FnScope N ps scope) (len : ∀ vs H Q E, sp vs H Q E → vs.length = ps.length)
    (hbody : ∀ (cdv : Value) (A : Around) (outer : List Env) (s : Shared) (H : Hp) (vs : List V) (Q : VK) (E : XK), Room k (A.deeper (envOfC qual scope s.heap.objs.size f cdv)) → sp vs H Q E →
      ∃ t, PSs (cxOf CX0 P w K mg base N qual scope f cdv A outer s H E).nox body t ∧ t { nx := fun _ H' => Q .non H', rt := Q } (start N vs) H) : FnOk P w K mg base CX0 (k + 1) f fd ps sp :=
  F.ok S len fun cdv A outer s H vs Q E hr h => let ⟨t, h1, h2⟩ := hbody cdv A outer s H vs Q E hr h; ⟨t, h1.nox, h2⟩
theorem ok_answers {fd : FuncData} (F : FunD K d_answers.name d_answers.qual d_answers.params d_answers.body d_answers.scope [] [] (He.fAd K d_answers.at_) fd) (T : Txt K mg) (TB1 : TabB base mg (He.cT K tp1).1 (He.cT K tp1).2) (TB2 : TabB base mg (He.cT K tp2).1 (He.cT K tp2).2) : FnOk P w K mg base CX0 13 (He.ga K "answers") fd ["calls"] (spAnswers K) := by
  refine fn_at F sc_answers (fun vs H Q E h => ?_) (fun cdv Ar outer s H vs Q E hr h => ⟨_,
    pss_cons (ps_set (i := 1) sc_answers.nd rfl (.inl rfl) pe_non)
    (pss_cons (ps_set (i := 2) sc_answers.nd rfl (.inl rfl) (pe_lst pa_nil))
    (pss_cons (ps_for PassesOwn.never rfl (pi_list (pe_cl (ok_split T) (hr.mono (by decide)) rfl T.g_split_calls (pa_cons (pv 0) pa_nil))) (pg_tup rfl (pgs_cons (pg_name (i := 3) sc_answers.nd rfl (.inl rfl)) (pgs_cons (pg_name (i := 4) sc_answers.nd rfl (.inl rfl)) (pgs_cons (pg_name (i := 5) sc_answers.nd rfl (.inl rfl)) pgs_nil))))
      (pss_cons (ps_if (pt_cmpR op_eq (pv 3) (pe_gi rfl T.i_RESET) (nomark _))
          (pss_cons (ps_set (i := 1) sc_answers.nd rfl (.inl rfl) (pe_mk0 T.k_RouteServer (ok_server_init T) (hr.mono (by decide)) rfl T.g_RouteServer)) (pss_one (ps_set (i := 6) sc_answers.nd rfl (.inl rfl) (pe_lst (pa_cons pe_int pa_nil)))))
          (pss_one (ps_if (pt_cmpR op_isN (pv 1) pe_non (nomark _))
            (pss_one (ps_set (i := 6) sc_answers.nd rfl (.inl rfl) (pe_lst (pa_cons (pe_gi rfl T.i_NO_SERVER) pa_nil))))
            (pss_one (ps_set (i := 6) sc_answers.nd rfl (.inl rfl) (pe_cl (ok_perform T TB1 TB2) hr rfl T.g_perform (pa_cons (pv 1) (pa_cons (pv 3) (pa_cons (pv 4) (pa_cons (pv 5) pa_nil))))))))))
      (pss_cons (ps_expr (pe_bm PySem.F.plainAttrs_list PySem.F.slot_list_append PySem.F.type_list_append mt_append (pv 2) (pa_cons (pe_callB call_len_seq rfl T.n_len PySem.boot_len (pa_cons (pv 6) pa_nil)) pa_nil)))
      (pss_one (ps_expr (pe_bm PySem.F.plainAttrs_list PySem.F.slot_list_extend PySem.F.type_list_extend mt_extend (pv 2) (pa_cons (pv 6) pa_nil)))))))
    (pss_one (ps_ret (pv 2))))), ?_⟩)
  · obtain ⟨c, l, rfl, _⟩ := h
    rfl
  · obtain ⟨c, l, rfl, hc, hask, tabs, h⟩ := h
    obtain ⟨raw, hraw, hin, hans, hlen⟩ := asked_is hask
    have h400 := asked_len hask hraw
    refine ⟨by show 0 ≤ sizeLine; decide, fun A nA => ?_⟩
    have e0 : Ex (Tl K) H (upd H A (.lst [])) := exN nA
    have A0 : upd H A (.lst []) A = some (.lst []) := upd_same
    refine ⟨_, rfl, c, l, raw, rfl, e0.seq hc, hraw, hin, h400, fun H1 p ts e1 np hp pts => ?_⟩
    have A1 := e1.at_ A0
    have pA : p ≠ A := fun e => np.ne A0 (nt_lst _) e.symm
    have tabs1 := e1.2 (e0.2 tabs)
    refine ⟨p, rfl, ⟨_, SqL.of hp⟩, ?_⟩
    refine for_list (K := K) (a := p) (xs := ts.map V.ref) (fun i σ H' => ∃ (st : Option Su201.RouteServer) (acc : List Int) (v : V) (a b d e : Option V), σ = [some (.ref c), some v, some (.ref A), a, b, d, e] ∧ Keep (Tl K) [A] H1 H' ∧ H' A = some (.lst (acc.map V.int)) ∧ PySu201.answers l = acc ++ outOf st (raw.drop i) ∧ StAt K H1 H' A v st)
      ⟨none, [], .non, _, _, _, _, rfl, Keep.refl _ _ _, A1, by rw [hans]; rfl, rfl⟩ (fun i σ H' _ ⟨st, acc, v, a, b, d, e, _, k, _⟩ => SqL.of (k.at_ hp (not1 pA))) ?_ ?_
    · rintro i x σ H' hx ⟨st, acc, v, a, b, d, e, rfl, k, hA, hacc, hst⟩
      have hx' : ∃ t cc, x = .ref t ∧ raw[i]? = some cc ∧ Ent p (upd H A (.lst [])) H1 t cc := by
        rw [List.getElem?_map] at hx
        cases q : ts[i]? with
        | none => rw [q] at hx; cases hx
        | some t =>
          rw [q] at hx
          obtain ⟨cc, hcc, ht⟩ := paired_got pts q
          exact ⟨t, cc, (Option.some.inj hx).symm, hcc, ht⟩
      obtain ⟨t, cc, rfl, hcc, j, ns, ps, g, q, gc, ht, hg, hq, ng, nq, _, _⟩ := hx'
      have gA : g ≠ A := fun e => ng.ne A0 (nt_lst _) e.symm
      have qA : q ≠ A := fun e => nq.ne A0 (nt_lst _) e.symm
      have ht' := k.at_ ht (not1 (ne_of ht A1 (by intro z; cases z)))
      have hg' := k.at_ hg (not1 gA)
      have hq' := k.at_ hq (not1 qA)
      have dr : raw.drop i = cc :: raw.drop (i + 1) := by
        obtain ⟨hi, e⟩ := List.getElem?_eq_some_iff.mp hcc
        rw [List.drop_eq_getElem_cons hi, e]
      rw [dr, outOf_cons gc] at hacc
      have total : (PySu201.answers l).length ≤ 10000000 := by rw [hans]; exact hlen
      have lens := ans_len (l := l) total hacc
      have resl : ∀ r : Su201.Result, (resV r).length = (resI r).length := fun r => List.length_map _
      refine ⟨_, _, rfl, SqT.of ht', rfl, _, _, rfl, _, _, rfl, _, _, rfl, rfl, ?_⟩
      refine ⟨_, rfl, rfl, _, rfl, ?_⟩
      have fin : ∀ {r : Su201.Result} {st' : Option Su201.RouteServer}, PySu201.answers l = acc ++ ((((resI r).length : Int) :: resI r) ++ outOf st' (raw.drop (i + 1))) → PySu201.answers l = (acc ++ ((((resI r).length : Int) :: resI r))) ++ outOf st' (raw.drop (i + 1)) := fun z => by rw [z, List.append_assoc]
      have eqv : ∀ {r : Su201.Result}, (acc.map V.int ++ [V.int ((resV r).length : Int)]) ++ resV r = (acc ++ ((((resI r).length : Int) :: resI r))).map V.int := fun {r} => by
        rw [List.map_append, List.map_cons, List.append_assoc, resl]
        rfl
      by_cases c0 : j = 0
      · subst c0
        rw [step_reset st ns ps gc.len] at hacc lens
        refine eq_step rfl ?_
        intro y dy ny nd ne
        obtain ⟨e2, y2⟩ := mk_ex (T := Tl K) (o := .ins (cS K) dy []) (u := .own y) ny nd ne
        refine ⟨y, dy, rfl, y2, fun H4 ml rl k4 wm wr mr y4 hml hrl => ⟨rfl, ?_⟩⟩
        have e4 := mk_done e2 ny k4
        refine ⟨len1, fun p5 n5 => ?_⟩
        have e5 := e4.trans (exN (o := .lst [V.int 0]) n5)
        have x5 : Ex (Tl K) H4 (upd H4 p5 (.lst [V.int 0])) := exN n5
        have k5 := k.trans e5.keep
        have hA5 := e5.at_ hA
        have hp5 : upd H4 p5 (.lst [V.int 0]) p5 = some (.lst (resV (Su201.ok 0 []))) := upd_same
        have pA5 : p5 ≠ A := (ne_of_none (e4.at_ hA) n5).symm
        have nwy := nw_keep k (.inl ny)
        have nwm := nw_keep k (nw_ex e2 wm)
        have nwr := nw_keep k (nw_ex e2 wr)
        obtain ⟨t1, t2, t3⟩ := grow_ans (z := V.int ((resV (Su201.ok 0 [])).length : Int)) k5 hA5 hp5 pA5
        refine ⟨_, rfl, .inl ⟨rfl, _, SqL.of hA5⟩, _, rfl, _, _, rfl, .inl (SqL.of hp5), _, _, _, rfl, rfl, hA5, big (by rw [List.length_map]; omega), _, rfl, .inl ⟨rfl, _, SqL.of upd_same⟩, _, rfl, _, _, _, _, rfl, rfl, upd_same, t1, Nat.le_of_lt (big (by rw [List.length_append, List.length_map]; show acc.length + 1 + (resV _).length ≤ _; rw [resl]; omega)), ?_⟩
        have sv : SrvAt K (upd H4 p5 (.lst [V.int 0])) ⟨y, dy, ml, rl, [], []⟩ Su201.empty := ⟨x5.at_ y4, x5.at_ hml, x5.at_ hrl, .nil, .nil, mr, List.Pairwise.nil⟩
        have nf : ∀ b ∈ foot (⟨y, dy, ml, rl, [], []⟩ : SA), Nw H1 b := fun b hb => by
          have hb : b ∈ [y, ml, rl] := hb
          simp only [List.mem_cons, List.not_mem_nil, or_false] at hb
          rcases hb with rfl | rfl | rfl
          · exact nwy
          · exact nwm
          · exact nwr
        obtain ⟨sv6, nq6⟩ := srv_ans sv t2 hA5 (fun b hb e => (nf b hb).ne A1 (nt_lst _) e.symm) (fun a ha => by cases ha)
        exact ⟨some Su201.empty, _, _, _, _, _, _, rfl, t3, by rw [upd_same, eqv], fin hacc, ⟨y, dy, ml, rl, [], []⟩, rfl, sv6, wf_empty, nf, nq6⟩
      · refine ne_step (fun z => c0 (by omega)) ?_
        cases st with
        | none =>
        have hv : v = .non := hst
        subst hv
        rw [step_none (by omega) gc.hi gc.len] at hacc lens
        refine ⟨_, rfl, rfl, _, rfl, iteT ⟨len1, fun p5 n5 => ?_⟩⟩
        have e5 : Ex (Tl K) H' (upd H' p5 (.lst [V.int (-11)])) := exN n5
        have k5 := k.trans e5.keep
        have hA5 := e5.at_ hA
        have hp5 : upd H' p5 (.lst [V.int (-11)]) p5 = some (.lst (resV (Su201.error (-11)))) := upd_same
        have pA5 : p5 ≠ A := (ne_of_none hA n5).symm
        obtain ⟨t1, t2, t3⟩ := grow_ans (z := V.int ((resV (Su201.error (-11))).length : Int)) k5 hA5 hp5 pA5
        refine ⟨_, rfl, .inl ⟨rfl, _, SqL.of hA5⟩, _, rfl, _, _, rfl, .inl (SqL.of hp5), _, _, _, rfl, rfl, hA5, big (by rw [List.length_map]; omega), _, rfl, .inl ⟨rfl, _, SqL.of upd_same⟩, _, rfl, _, _, _, _, rfl, rfl, upd_same, t1, Nat.le_of_lt (big (by rw [List.length_append, List.length_map]; show acc.length + 1 + (resV _).length ≤ _; rw [resl]; omega)), ?_⟩
        exact ⟨none, _, _, _, _, _, _, rfl, t3, by rw [upd_same, eqv], fin hacc, rfl⟩
        | some s =>
        obtain ⟨L, rfl, sv, wf, nf, nql⟩ := hst
        have hstep : Su201.step (some s) (opOf j ns ps) = (some (Su201.execute s (opOf j ns ps)).1, (Su201.execute s (opOf j ns ps)).2) := rfl
        rw [hstep] at hacc lens
        refine ⟨_, rfl, rfl, _, rfl, iteF ?_⟩
        refine ⟨_, rfl, _, rfl, _, rfl, _, rfl, L, s, g, q, j, ns, ps, rfl, sv, wf, k.t tabs1, by omega, gc.hi, gc.len, hg', hq', fun H5 L5 p5 k5' ea fo ro sv5 np5 hp5 => ?_⟩
        have k5 := keep_comp k k5' nf
        have Af : A ∉ foot L := fun m => (nf A m).ne A1 (nt_lst _) rfl
        have hA5 := k5'.at_ hA Af
        have pA5 : p5 ≠ A := fun e => np5.ne hA (nt_lst _) e.symm
        obtain ⟨t1, t2, t3⟩ := grow_ans (z := V.int ((resV (Su201.execute s (opOf j ns ps)).2).length : Int)) k5 hA5 hp5 pA5
        refine ⟨_, rfl, .inl ⟨rfl, _, SqL.of hA5⟩, _, rfl, _, _, rfl, .inl (SqL.of hp5), _, _, _, rfl, rfl, hA5, big (by rw [List.length_map]; omega), _, rfl, .inl ⟨rfl, _, SqL.of upd_same⟩, _, rfl, _, _, _, _, rfl, rfl, upd_same, t1, Nat.le_of_lt (big (by rw [List.length_append, List.length_map]; show acc.length + 1 + (resV _).length ≤ _; rw [resl]; omega)), ?_⟩
        have nf5 : ∀ b ∈ foot L5, Nw H1 b := fun b hb => by
          rcases fo b hb with hb | hb
          · exact nf b hb
          · exact nw_keep k hb
        have nq5 : NoQ K H5 L5 A := fun a ha dx r q' e => by
          rcases ro a ha with ha | ⟨dx', x', e'⟩
          · obtain ⟨r0, hr0, dx0, q0, h1, h2⟩ := paired_left sv.rou a ha
            have := k5'.at_ h1 (not_foot sv.foot h1 pf_not_rou)
            rw [this] at e
            rw [← rF_inj (HO.ins.inj (Option.some.inj e)).2.2]
            exact nql a ha dx0 r0 q0 h1
          · rw [e'] at e
            rw [← rF_inj (HO.ins.inj (Option.some.inj e)).2.2]
            exact qA
        obtain ⟨sv6, nq6⟩ := srv_ans sv5 t2 hA5 (fun b hb e => (nf5 b hb).ne A1 (nt_lst _) e.symm) nq5
        exact ⟨some (Su201.execute s (opOf j ns ps)).1, _, _, _, _, _, _, rfl, t3, by rw [upd_same, eqv], fin hacc, L5, congrArg V.ref ea.symm, sv6, wf_execute wf _, nf5, nq6⟩
    · rintro σ H' ⟨st, acc, v, a, b, d, e, rfl, k, hA, hacc, hst⟩
      have dl : raw.drop (ts.map V.ref).length = [] := List.drop_eq_nil_of_le (by rw [List.length_map, pts.length]; exact Nat.le_refl _)
      rw [dl, outOf_nil, List.append_nil] at hacc
      refine ⟨_, rfl, h H' A ?_⟩
      rw [hacc]
      exact hA
end
end Nhp
/-! The end. -/
namespace Nhp
open PySem PySem.Spec PyProof.Rows L2 LamX NdefX
abbrev csK (K : PySem.W.Frag) : List (Addr × Addr) := tf.map (He.cT K)
theorem cs_all {K : PySem.W.Frag} {R : Addr × Addr → Prop} (h : ∀ d ∈ tf, R (He.cT K d)) : ∀ p ∈ csK K, R p := by
  intro p hp
  obtain ⟨d, hd, e⟩ := List.mem_map.mp hp
  rw [← e]
  exact h d hd
theorem facts {w : World} {mg : Str → Option Value} {fa : Addr} {h : Heap} (Y : ∃ K, PySem.W.Frag.In K h ∧ He.SaysX fas fns [] tf ex w h K) (G : h.Ns mainGlobals mg) (hmg : mg ("answers" : Str) = some (.ref fa)) :
    ∃ K : PySem.W.Frag, K.In h ∧ (∀ p ∈ csK K, h.get? p.2 = some tblO) ∧ (∀ p ∈ csK K, K.lookup p.2 = none) ∧ (∀ p ∈ csK K, PySem.W.CodeHd h p.1 p.2) ∧
      ∃ fd : FuncData, (∀ (s : Shared) (us : List Value), us.length = (["calls"] : List Str).length → BindsTo s fd ⟨us, []⟩ ((["calls"] : List Str).zip us)) ∧
        ∀ base : Heap, K.In base → base.Ns mainGlobals mg → (∀ p ∈ csK K, TabB base mg p.1 p.2) → FnOk Rw.prog w K mg base CX0 13 fa fd ["calls"] (spAnswers K) := by
  obtain ⟨K, X, S⟩ := Y
  have T := txt_of X G S
  have e := hmg.symm.trans T.g_answers
  cases e
  obtain ⟨fd, F⟩ := T.d_answers
  refine ⟨K, X, cs_all fun d hd => S.empty d hd, cs_all fun d hd => S.out d hd, cs_all fun d hd => PySem.W.codeHd_of_K X (S.hd d hd), fd, ?_, fun base _ _ tb => ?_⟩
  · exact FunD.bindsA (ps := ["calls"]) F fun _ _ _ _ _ _ us hl => match us, hl with | [_], _ => rfl
  · exact ok_answers F T (tb _ (List.mem_map.mpr ⟨tp1, by decide, rfl⟩)) (tb _ (List.mem_map.mpr ⟨tp2, by decide, rfl⟩))
theorem tabs_of {K : PySem.W.Frag} {H : Hp} (h : ∀ p ∈ csK K, H p.2 = some (.tbl #[])) : Tabs (Tl K) H := by
  have one : ∀ {a : Addr} {q : Str}, H a = some (.tbl #[]) → TabS H a q := fun {a q} e => ⟨#[], e, by trivial, fun pos cv z => by cases z⟩
  intro p hp
  rcases List.mem_cons.mp hp with rfl | hp
  · exact one (h _ (List.mem_map.mpr ⟨tp1, by decide, rfl⟩))
  · rcases List.mem_cons.mp hp with rfl | hp
    · exact one (h _ (List.mem_map.mpr ⟨tp2, by decide, rfl⟩))
    · cases hp
theorem dw_in {K : PySem.W.Frag} {H : Hp} : ∀ {l : List Int} {xs : List V}, DwAll K H xs (l.map PySem.W.WData.int) → xs = l.map V.int
  | [], _, .nil => rfl
  | i :: l, _, .cons (.int _) t => by rw [dw_in t]; rfl
theorem dw_out {K : PySem.W.Frag} {H : Hp} : ∀ l : List Int, DwAll K H (l.map V.int) (l.map PySem.W.WData.int)
  | [] => .nil
  | i :: l => .cons (.int i) (dw_out l)
theorem sp_of {K : PySem.W.Frag} {H : Hp} {xs : List V} {l : List Int} (ht : ∀ p ∈ csK K, H p.2 = some (.tbl #[])) (hask : PySu201.answers_asked l = true) (ha : DwAll K H xs [.list (l.map PySem.W.WData.int)]) :
    spAnswers K xs H (fun v H' => Dw K H' v (.list ((PySu201.answers l).map PySem.W.WData.int))) fun _ _ _ => False := by
  cases ha with
  | cons h1 h2 =>
    cases h2
    cases h1 with
    | lst hs hd =>
      have e := dw_in hd
      subst e
      exact ⟨_, l, rfl, hs, hask, tabs_of ht, fun H' p hp => .lst (SqL.of hp) (dw_out _)⟩
end Nhp
open PySem PySem.W PySem.Calls PyProof.Rows
theorem PySem.Challenge.cw_nohiddenpaths_s01_answers_holds : PySem.Challenge.rw_nohiddenpaths_s01_answers.Holds := by
  w_on
  refine HeadRun.head_spec (r := PySem.Challenge.rw_nohiddenpaths_s01_answers) (q := view PySem.Challenge.rw_nohiddenpaths_s01_answers.prog [72]) (H := Nhp.hk) (ob := Nhp.ob) (M := 4000) (loose := Nhp.names) (d := HandSHeadRun.topDef PySem.Challenge.rw_nohiddenpaths_s01_answers.prog 72) (kwd := []) Nhp.ob_eq
    (by kernel_rfl) (fun s => by kernel_rfl) Nhp.run (by kernel_rfl) (by kernel_rfl) (by kernel_rfl) os_shapes (by first | assumption | decide +kernel) (by decide +kernel) ⟨rfl, rfl, rfl, rfl, rfl, by decide +kernel⟩ ?hw ?hc
  case hw => exact ⟨[.list [.int 0]], by decide +kernel, by decide +kernel⟩
  case hc =>
    refine Nhp.walk_specT (k := 13) (CX := L2.CX0) (ps := ["calls"]) (cs := Nhp.csK) (sp := Nhp.spAnswers) (by first | assumption | decide +kernel) (by kernel_rfl) rfl ⟨rfl, by decide, by decide⟩ ?F ?S (fun _ _ _ _ z => z)
    · intro w mg fa h Y G hmg0
      have hmg : mg ("answers" : PySem.Str) = some (.ref fa) := by
        have e : (HandSHeadRun.topDef PySem.Challenge.rw_nohiddenpaths_s01_answers.prog 72).name = ("answers" : PySem.Str) := by kernel_rfl
        rw [← e]
        exact hmg0
      exact Nhp.facts Y G hmg
    · intro K H xs a ht hwi hask ha
      exact Nhp.sp_of ht hask ha
