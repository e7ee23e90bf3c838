import PyProof.Rows.All
import Wide.All
import OpenK.AllK
import Wide.FinOn
import HandS.ForMost
import HandS.ForExc
import HandS.Lambda
import HandS.TupMul
import HandS.TupAny
import HandS.Conv
import PyProof.TupleCall
import HandS.TupLe
import HandS.Flow
import HandS.Zip
import KE.SortData
import HandS.Deep
import HandS.Dict
import KE.KEqDict
import HandS.SortInts
import HandS.IsInst
import HandS.SetBool
import PyProof.Rows.SortShellAny
import KE.DataMinMax
import PyProof.Claim2Refuses
import KE.SortCalls
import KE.DatumOrd
import PyProof.SumAny
import PyProof.WalksMore
import PyProof.Rows.SumAny
import PyProof.ReprRoads
import PyProof.CallFns
import HandS.ExcValue
import HandS.CallLocal
import KE.GoesMore
import PyProof.EnumMake
import KE.KStar
import HandS.Strs
import HandS.SetFor
import HandS.Style
import HandS.WordsExc
import HandS.ExcOwn
import HandS.ExcIs
import HandS.HotCalls
import HandS.EndOwn
import PyProof.ReprBulk
import PyProof.FitsInt
import HandS.Defaults
import HandS.TupSets
import KE.KeyNested
import KE.RegKIsAll
import KE.RegKTryMore
import PySem.Challenge.RW_tenturns_k11_lessons_parties_deeds_books
set_option Elab.async false
set_option linter.all false
set_option maxRecDepth 100000
set_option maxHeartbeats 4000000
/-! Data: Python values as trees, and how they lie in the abstract heap. -/
namespace Dv
open PySem L2

abbrev D := PyData

abbrev Ctx := PySem.W.Frag × (Str → Option Value)

/-- the tables of code objects that a law's lambdas are noted in -/
class TabC where
  T : List (Addr × Str)
  ea : Addr
/-- the tables stand, out of what stays for good -/
def TbOk [TabC] (H0 H : Hp) : Prop := LamX.Tabs TabC.T H ∧ ∀ a ps, H0 a ≠ some (.tbl ps)
/-- dicts: {} and {i: j}; a thing of which only its kind is known: {None: ..}, the value a text: an own exception, the name of its class; a number: a dict; {True: None}: what stands at ea -/
def RepX [TabC] (G : Ctx) (H : Hp) : List (PyData × PyData) → V → Prop
  | [(.none, .str cn)], v => ∃ a C φ, v = .ref a ∧ H a = some (.ext φ) ∧ G.2 cn = some (.ref C) ∧ ∀ h, φ h → ∃ oe vs, h.get? a = some oe ∧ Zc (.ref C) none oe ∧ oe.data = .fields vs
  | [(.none, .int _)], v => ∃ a kvs, v = .ref a ∧ H a = some (.dK kvs)
  | [(.bool _, .none)], v => v = .ref TabC.ea
  | [], v => ∃ a, v = .ref a ∧ H a = some (.dK [])
  | [(.int i, .int j)], v => ∃ a, v = .ref a ∧ H a = some (.dK [(.inl i, .int j)])
  | _, _ => False
theorem RepX.ex [TabC] {G : Ctx} {H H' : Hp} (e : ∀ a o, H a = some o → H' a = some o) {kvs : List (PyData × PyData)} {v : V} (h : RepX G H kvs v) : RepX G H' kvs v := by
  unfold RepX at h ⊢
  split at h
  · obtain ⟨a, C, φ, h1, h2, h3⟩ := h
    exact ⟨a, C, φ, h1, e _ _ h2, h3⟩
  · obtain ⟨a, ks, h1, h2⟩ := h
    exact ⟨a, ks, h1, e _ _ h2⟩
  · exact h
  · obtain ⟨a, h1, h2⟩ := h
    exact ⟨a, h1, e _ _ h2⟩
  · obtain ⟨a, h1, h2⟩ := h
    exact ⟨a, h1, e _ _ h2⟩
  · exact h.elim
theorem RepX.ref [TabC] {G : Ctx} {H : Hp} {kvs : List (PyData × PyData)} {v : V} (h : RepX G H kvs v) : ∃ a, v = .ref a := by
  unfold RepX at h
  split at h
  · obtain ⟨a, C, φ, h1, _⟩ := h
    exact ⟨a, h1⟩
  · obtain ⟨a, ks, h1, _⟩ := h
    exact ⟨a, h1⟩
  · exact ⟨_, h⟩
  · obtain ⟨a, h1, _⟩ := h
    exact ⟨a, h1⟩
  · obtain ⟨a, h1, _⟩ := h
    exact ⟨a, h1⟩
  · exact h.elim
/-- nothing stands there but a table of code objects, perhaps -/
def Nn (H : Hp) (a : Addr) : Prop := ∀ o, H a = some o → ∃ ps, o = .tbl ps
theorem nn {H : Hp} {a : Addr} (h : H a = none) : Nn H a := fun o e => by rw [h] at e; cases e
theorem Nn.not {H : Hp} {a : Addr} {o : HO} (n : Nn H a) (h : H a = some o) (nt : ∀ ps, o ≠ .tbl ps := by intro ps z; cases z) : False := by
  obtain ⟨ps, z⟩ := n o h
  exact nt ps z
theorem Nn.upd {H : Hp} {a p : Addr} {o : HO} (n : Nn (upd H p o) a) (hp : H p = none) : Nn H a := fun u e => n u (by rw [upd_ne (fun z => by rw [z, hp] at e; cases e)]; exact e)
theorem Nn.put {H : Hp} {a p : Addr} {o : HO} (n : Nn (L2.upd H p o) a) (nt : ∀ ps, o ≠ .tbl ps := by intro ps z; cases z) : Nn H a := fun u e => by
  by_cases h : a = p
  · subst h; exact (n.not upd_same nt).elim
  · exact n u (by rw [upd_ne h]; exact e)
/-- a tuple of which all is known: it has no dict of its own -/
def TpO (H : Hp) (a : Addr) (vs : List V) : Prop := ∃ o, H a = some (.frz o (.tup vs)) ∧ o.dict = none
theorem TpO.rd {H : Hp} {a : Addr} {vs : List V} (h : TpO H a vs) : Rd H a (.tup vs) := .inr ⟨h.choose, h.choose_spec.1⟩
theorem TpO.new {H : Hp} {a : Addr} {vs : List V} {o : Obj} (h : o.dict = none) : TpO (upd H a (.frz o (.tup vs))) a vs := ⟨o, upd_same, h⟩
theorem TpO.ex {H H' : Hp} {a : Addr} {vs : List V} (e : ∀ a o, H a = some o → H' a = some o) (h : TpO H a vs) : TpO H' a vs := ⟨h.choose, e _ _ h.choose_spec.1, h.choose_spec.2⟩
variable [TabC]
mutual
def Rep (G : Ctx) (H : Hp) : PyData → V → Prop
  | .none, v => v = .non
  | .bool b, v => v = .bl b
  | .int i, v => v = .int i
  | .str x, v => v = .str x
  | .dict kvs, v => RepX G H kvs v
  | .tuple ds, v => ∃ a vs, v = .ref a ∧ TpO H a vs ∧ Reps G H ds vs
  | .list ds, v => ∃ a vs, v = .ref a ∧ H a = some (.lst vs) ∧ Reps G H ds vs
def Reps (G : Ctx) (H : Hp) : List D → List V → Prop
  | [], vs => vs = []
  | d :: ds, vs => ∃ w ws, vs = w :: ws ∧ Rep G H d w ∧ Reps G H ds ws
end

def Ex (H H' : Hp) : Prop := ∀ a o, H a = some o → H' a = some o
theorem Ex.refl (H : Hp) : Ex H H := fun _ _ h => h
theorem Ex.trans {H H1 H2 : Hp} (a : Ex H H1) (b : Ex H1 H2) : Ex H H2 := fun x o h => b x o (a x o h)
theorem Ex.back {H H' : Hp} (e : Ex H H') {p : Addr} (h : H' p = none) : H p = none := by
  cases q : H p with
  | none => rfl
  | some o => rw [e p o q] at h; cases h
theorem Ex.new {H : Hp} {p : Addr} {o : HO} (h : H p = none) : Ex H (upd H p o) := fun a u e => by
  rw [upd_ne (ne_of_none e h)]; exact e
theorem ex_rd {H H' : Hp} {a : Addr} {u : HO} (e : Ex H H') (h : Rd H a u) : Rd H' a u := by
  rcases h with h | ⟨o, h⟩
  · exact .inl (e a _ h)
  · exact .inr ⟨o, e a _ h⟩
theorem ex_l {K : PySem.W.Frag} {H H' : Hp} {a : Addr} {xs : List V} (e : Ex H H') (h : SqL K H a xs) : SqL K H' a xs := by
  rcases h with h | h
  · exact .inl (ex_rd e h)
  · exact .inr h
theorem ex_t {K : PySem.W.Frag} {H H' : Hp} {a : Addr} {xs : List V} (e : Ex H H') (h : SqT K H a xs) : SqT K H' a xs := by
  rcases h with h | h
  · exact .inl (ex_rd e h)
  · exact .inr h
mutual
theorem Rep.ex {G : Ctx} {H H' : Hp} (e : Ex H H') : ∀ {d : D} {v : V}, Rep G H d v → Rep G H' d v
  | .none, _, h => by simpa only [Rep] using h
  | .bool b, _, h => by simpa only [Rep] using h
  | .int i, _, h => by simpa only [Rep] using h
  | .str x, _, h => by simpa only [Rep] using h
  | .dict x, _, h => by simp only [Rep] at h ⊢; exact h.ex e
  | .tuple ds, _, h => by
    simp only [Rep] at h ⊢
    obtain ⟨a, vs, e1, h1, h2⟩ := h
    exact ⟨a, vs, e1, h1.ex e, Reps.ex e h2⟩
  | .list ds, _, h => by
    simp only [Rep] at h ⊢
    obtain ⟨a, vs, e1, h1, h2⟩ := h
    exact ⟨a, vs, e1, e a _ h1, Reps.ex e h2⟩
theorem Reps.ex {G : Ctx} {H H' : Hp} (e : Ex H H') : ∀ {ds : List D} {vs : List V}, Reps G H ds vs → Reps G H' ds vs
  | [], _, h => by simpa only [Reps] using h
  | d :: ds, _, h => by
    simp only [Reps] at h ⊢
    obtain ⟨w, ws, e1, h1, h2⟩ := h
    exact ⟨w, ws, e1, Rep.ex e h1, Reps.ex e h2⟩
end
section
variable {G : Ctx} {H : Hp}
theorem Reps.nil : Reps G H [] [] := by simp only [Reps]
theorem Reps.cons {d : D} {v : V} {ds : List D} {vs : List V} (h : Rep G H d v) (t : Reps G H ds vs) : Reps G H (d :: ds) (v :: vs) := by
  simp only [Reps]; exact ⟨v, vs, rfl, h, t⟩
theorem Reps.length : ∀ {ds : List D} {vs : List V}, Reps G H ds vs → ds.length = vs.length
  | [], _, h => by simp only [Reps] at h; subst h; rfl
  | d :: ds, _, h => by
    simp only [Reps] at h
    obtain ⟨w, ws, rfl, _, h2⟩ := h
    simp [h2.length]
theorem Reps.get : ∀ {ds : List D} {vs : List V} {i : Nat} {d : D}, Reps G H ds vs → ds[i]? = some d → ∃ v, vs[i]? = some v ∧ Rep G H d v
  | [], _, _, _, _, e => by simp at e
  | d :: ds, _, 0, _, h, e => by
    simp only [Reps] at h
    obtain ⟨w, ws, rfl, h1, _⟩ := h
    simp at e; subst e
    exact ⟨w, rfl, h1⟩
  | d :: ds, _, i + 1, _, h, e => by
    simp only [Reps] at h
    obtain ⟨w, ws, rfl, _, h2⟩ := h
    simpa using h2.get (i := i) (by simpa using e)
theorem Reps.get' : ∀ {ds : List D} {vs : List V} {i : Nat} {v : V}, Reps G H ds vs → vs[i]? = some v → ∃ d, ds[i]? = some d ∧ Rep G H d v
  | [], _, _, _, h, e => by simp only [Reps] at h; subst h; simp at e
  | d :: ds, _, 0, _, h, e => by
    simp only [Reps] at h
    obtain ⟨w, ws, rfl, h1, _⟩ := h
    simp at e; subst e
    exact ⟨d, rfl, h1⟩
  | d :: ds, _, i + 1, _, h, e => by
    simp only [Reps] at h
    obtain ⟨w, ws, rfl, _, h2⟩ := h
    simpa using h2.get' (i := i) (by simpa using e)
theorem Reps.append : ∀ {ds es : List D} {vs ws : List V}, Reps G H ds vs → Reps G H es ws → Reps G H (ds ++ es) (vs ++ ws)
  | [], _, _, _, h, t => by simp only [Reps] at h; subst h; exact t
  | d :: ds, _, _, _, h, t => by
    simp only [Reps] at h
    obtain ⟨w, us, rfl, h1, h2⟩ := h
    exact Reps.cons h1 (h2.append t)
theorem Reps.take : ∀ {ds : List D} {vs : List V} (n : Nat), Reps G H ds vs → Reps G H (ds.take n) (vs.take n)
  | [], _, n, h => by simp only [Reps] at h; subst h; simp [Reps]
  | d :: ds, _, 0, h => by simp [Reps]
  | d :: ds, _, n + 1, h => by
    simp only [Reps] at h
    obtain ⟨w, us, rfl, h1, h2⟩ := h
    exact Reps.cons h1 (h2.take n)
theorem Reps.drop : ∀ {ds : List D} {vs : List V} (n : Nat), Reps G H ds vs → Reps G H (ds.drop n) (vs.drop n)
  | [], _, n, h => by simp only [Reps] at h; subst h; simp [Reps]
  | d :: ds, _, 0, h => by simpa using h
  | d :: ds, _, n + 1, h => by
    simp only [Reps] at h
    obtain ⟨w, us, rfl, h1, h2⟩ := h
    simpa using h2.drop n
theorem Reps.set {d : D} {v : V} (hd : Rep G H d v) : ∀ {ds : List D} {vs : List V} (n : Nat), Reps G H ds vs → Reps G H (ds.set n d) (vs.set n v)
  | [], _, n, h => by simp only [Reps] at h; subst h; simp [Reps]
  | e :: ds, _, 0, h => by
    simp only [Reps] at h
    obtain ⟨w, us, rfl, h1, h2⟩ := h
    exact Reps.cons hd h2
  | e :: ds, _, n + 1, h => by
    simp only [Reps] at h
    obtain ⟨w, us, rfl, h1, h2⟩ := h
    exact Reps.cons h1 (h2.set hd n)
theorem Reps.reverse : ∀ {ds : List D} {vs : List V}, Reps G H ds vs → Reps G H ds.reverse vs.reverse
  | [], _, h => by simp only [Reps] at h; subst h; exact Reps.nil
  | d :: ds, _, h => by
    simp only [Reps] at h
    obtain ⟨w, us, rfl, h1, h2⟩ := h
    rw [List.reverse_cons, List.reverse_cons]
    exact h2.reverse.append (Reps.cons h1 Reps.nil)
theorem Reps.ints : ∀ {ns : List Int} {vs : List V}, Reps G H (ns.map PyData.int) vs → vs = ns.map V.int
  | [], _, h => by simpa [Reps] using h
  | n :: ns, _, h => by
    simp only [List.map_cons, Reps] at h
    obtain ⟨w, us, rfl, h1, h2⟩ := h
    simp only [Rep] at h1
    rw [h1, h2.ints, List.map_cons]
theorem Reps.of_ints : ∀ (ns : List Int), Reps G H (ns.map PyData.int) (ns.map V.int)
  | [] => Reps.nil
  | n :: ns => Reps.cons (by simp only [Rep]) (Reps.of_ints ns)
theorem Rep.int {i : Int} {v : V} (h : Rep G H (.int i) v) : v = .int i := by simpa only [Rep] using h
theorem Rep.bl {b : Bool} {v : V} (h : Rep G H (.bool b) v) : v = .bl b := by simpa only [Rep] using h
theorem Rep.str {x : Str} {v : V} (h : Rep G H (.str x) v) : v = .str x := by simpa only [Rep] using h
theorem Rep.non {v : V} (h : Rep G H .none v) : v = .non := by simpa only [Rep] using h
theorem Rep.tpo {ds : List D} {v : V} (h : Rep G H (.tuple ds) v) : ∃ a vs, v = .ref a ∧ TpO H a vs ∧ Reps G H ds vs := by simpa only [Rep] using h
theorem Rep.tup {ds : List D} {v : V} (h : Rep G H (.tuple ds) v) : ∃ a vs, v = .ref a ∧ Rd H a (.tup vs) ∧ Reps G H ds vs := by
  obtain ⟨a, vs, e, h1, h2⟩ := h.tpo
  exact ⟨a, vs, e, h1.rd, h2⟩
theorem Rep.lst {ds : List D} {v : V} (h : Rep G H (.list ds) v) : ∃ a vs, v = .ref a ∧ H a = some (.lst vs) ∧ Reps G H ds vs := by simpa only [Rep] using h
theorem rep_int (i : Int) : Rep G H (.int i) (.int i) := by simp only [Rep]
theorem rep_bl (i : Bool) : Rep G H (.bool i) (.bl i) := by simp only [Rep]
theorem rep_str (i : Str) : Rep G H (.str i) (.str i) := by simp only [Rep]
theorem rep_non : Rep G H .none .non := by simp only [Rep]
theorem rep_tupO {a : Addr} {vs : List V} {ds : List D} (h : TpO H a vs) (r : Reps G H ds vs) : Rep G H (.tuple ds) (.ref a) := by simp only [Rep]; exact ⟨a, vs, rfl, h, r⟩
theorem rep_lst {a : Addr} {vs : List V} {ds : List D} (h : H a = some (.lst vs)) (r : Reps G H ds vs) : Rep G H (.list ds) (.ref a) := by simp only [Rep]; exact ⟨a, vs, rfl, h, r⟩
end

/-! ### the names' values: data that stays, or a list of one's own that may change -/
inductive Sl where
  | im (d : D) | ow (xs : List D) | fn (x : Str) | fz (ns : List Int) | tt (ds : List D)
abbrev Rho := List (Option Sl)

def Own (ρ : Rho) (σ : St) (a : Addr) : Prop := ∃ (i : Nat) (xs : List D), ρ[i]? = some (some (.ow xs)) ∧ σ[i]? = some (some (.ref a))

def TupN (G : Ctx) (H : Hp) (a : Addr) (ds : List D) : Prop := ∃ o vs, H a = some (.frz o (.tup vs)) ∧ o.dict = none ∧ Reps G H ds vs
theorem TupN.ex {G : Ctx} {H H' : Hp} {a : Addr} {ds : List D} (e : Ex H H') (h : TupN G H a ds) : TupN G H' a ds := by
  obtain ⟨o, vs, h1, h2, h3⟩ := h
  exact ⟨o, vs, e _ _ h1, h2, h3.ex e⟩
theorem TupN.rep {G : Ctx} {H : Hp} {a : Addr} {ds : List D} (h : TupN G H a ds) : Rep G H (.tuple ds) (.ref a) := by
  obtain ⟨o, vs, h1, h2, h3⟩ := h
  exact rep_tupO ⟨o, h1, h2⟩ h3
theorem Rep.tupN {G : Ctx} {H : Hp} {ds : List D} {v : V} (h : Rep G H (.tuple ds) v) : ∃ a, v = .ref a ∧ TupN G H a ds := by
  obtain ⟨a, vs, e, ⟨o, h1, h2⟩, h3⟩ := h.tpo
  exact ⟨a, e, o, vs, h1, h2, h3⟩
section
variable {H0 H : Hp}
theorem tabs_new {T : List (Addr × Str)} {p : Addr} {o : HO} (hp : H p = none) (h : LamX.Tabs T H) : LamX.Tabs T (upd H p o) := LamX.Tabs.ext h (Ex.new hp)
theorem TbOk.newI (h : TbOk H0 H) {p : Addr} {o : HO} (hp : H p = none) (nt : ∀ ps, o ≠ .tbl ps) : TbOk (upd H0 p o) (upd H p o) := by
  refine ⟨tabs_new hp h.1, fun a ps z => ?_⟩
  by_cases ha : a = p
  · subst ha; rw [upd_same] at z; exact nt ps (Option.some.inj z)
  · rw [upd_ne ha] at z; exact h.2 a ps z
theorem TbOk.newO (h : TbOk H0 H) {p : Addr} {o : HO} (hp : H p = none) : TbOk H0 (upd H p o) := ⟨tabs_new hp h.1, h.2⟩
theorem TbOk.freeze (h : TbOk H0 H) {p : Addr} {vs : List V} (hp : H p = some (.lst vs)) : TbOk (upd H0 p (.lst vs)) H := ⟨h.1, fun a ps z => by
  by_cases ha : a = p
  · subst ha; rw [upd_same] at z; cases z
  · rw [upd_ne ha] at z; exact h.2 a ps z⟩
theorem TbOk.lst (h : TbOk H0 H) {p : Addr} {vs ws : List V} (hp : H p = some (.lst vs)) : TbOk H0 (upd H p (.lst ws)) := by
  refine ⟨fun q hq => ?_, h.2⟩
  obtain ⟨ps, h1, h2, h3⟩ := h.1 q hq
  refine ⟨ps, by rw [upd_ne (fun z => by rw [z, hp] at h1; cases h1)]; exact h1, h2, fun pos cv hc => ?_⟩
  obtain ⟨c, e1, e2⟩ := h3 pos cv hc
  have ne : c ≠ p := fun z => by
    rw [z, hp] at e2
    have e3 := Option.some.inj e2
    unfold LamX.CodeO at e3
    cases e3
  exact ⟨c, e1, by rw [upd_ne ne]; exact e2⟩
end
/-- H0: what stays for good; H: all that is tracked -/
structure REnv (G : Ctx) (ρ : Rho) (σ : St) (H0 H : Hp) : Prop where
  tb : TbOk H0 H
  ex : Ex H0 H
  len : ρ.length = σ.length
  im : ∀ (i : Nat) d, ρ[i]? = some (some (.im d)) → ∃ v, σ[i]? = some (some v) ∧ Rep G H0 d v
  fn : ∀ (i : Nat) x, ρ[i]? = some (some (.fn x)) → ∃ a, σ[i]? = some (some (.ref a)) ∧ G.2 x = some (.ref a)
  fz : ∀ (i : Nat) ns, ρ[i]? = some (some (.fz ns)) → ∃ a, σ[i]? = some (some (.ref a)) ∧ SqL G.1 H0 a (ns.map V.int)
  tt : ∀ (i : Nat) ds, ρ[i]? = some (some (.tt ds)) → ∃ a, σ[i]? = some (some (.ref a)) ∧ TupN G H0 a ds
  ow : ∀ (i : Nat) xs, ρ[i]? = some (some (.ow xs)) → ∃ a vs, σ[i]? = some (some (.ref a)) ∧ H a = some (.lst vs) ∧ H0 a = none ∧ Reps G H0 xs vs
  ap : ∀ (i j : Nat) xs ys a, ρ[i]? = some (some (.ow xs)) → ρ[j]? = some (some (.ow ys)) → σ[i]? = some (some (.ref a)) → σ[j]? = some (some (.ref a)) → i = j

/-- from one state to a later one -/
structure Tr (ρ : Rho) (σ : St) (H0 H : Hp) (ρ' : Rho) (σ' : St) (H0' H' : Hp) : Prop where
  ex : Ex H0 H0'
  fr' : ∀ a o, H a = some o → (∀ ps, o ≠ .tbl ps) → H0 a = none → ¬ Own ρ σ a → H' a = some o ∧ H0' a = none
  nw : ∀ a, Own ρ' σ' a → Own ρ σ a ∨ Nn H a
  kp : ∀ a, Nn H' a → Nn H a

theorem Tr.refl (ρ : Rho) (σ : St) (H0 H : Hp) : Tr ρ σ H0 H ρ σ H0 H := ⟨Ex.refl _, fun a o h _ n _ => ⟨h, n⟩, fun a h => .inl h, fun _ h => h⟩
theorem Tr.fr {ρ ρ' : Rho} {σ σ' : St} {H0 H H0' H' : Hp} (T : Tr ρ σ H0 H ρ' σ' H0' H') (a : Addr) {vs : List V} (o : HO) (h : H a = some o) (n : H0 a = none) (no : ¬ Own ρ σ a) (e : o = .lst vs := by rfl) : H' a = some o ∧ H0' a = none :=
  T.fr' a _ h (fun ps z => by rw [e] at z; cases z) n no
theorem Tr.trans {ρ ρ1 ρ2 : Rho} {σ σ1 σ2 : St} {H0 H H01 H1 H02 H2 : Hp} (a : Tr ρ σ H0 H ρ1 σ1 H01 H1) (b : Tr ρ1 σ1 H01 H1 ρ2 σ2 H02 H2) : Tr ρ σ H0 H ρ2 σ2 H02 H2 where
  ex := a.ex.trans b.ex
  fr' := fun x o h nt n no => by
    obtain ⟨h1, n1⟩ := a.fr' x o h nt n no
    refine b.fr' x o h1 nt n1 fun w => ?_
    rcases a.nw x w with z | z
    · exact no z
    · exact z.not h nt
  nw := fun x w => by
    rcases b.nw x w with z | z
    · exact a.nw x z
    · exact .inr (a.kp x z)
  kp := fun x h => a.kp x (b.kp x h)

/-- a value of one's own: data that stays, or a list that nobody else holds (told of the way from H to H') -/
def RSl (G : Ctx) (ρ : Rho) (σ : St) (H : Hp) (ρ' : Rho) (H0' H' : Hp) : Sl → V → Prop
  | .im d, v => Rep G H0' d v
  | .fn x, v => ∃ a, v = .ref a ∧ G.2 x = some (.ref a)
  | .fz ns, v => ∃ a, v = .ref a ∧ SqL G.1 H0' a (ns.map V.int)
  | .tt ds, v => ∃ a, v = .ref a ∧ TupN G H0' a ds
  | .ow xs, v => ∃ a vs, v = .ref a ∧ H' a = some (.lst vs) ∧ H0' a = none ∧ Reps G H0' xs vs ∧ ¬ Own ρ' σ a ∧ (Own ρ σ a ∨ Nn H a)

section
variable {G : Ctx} {ρ ρ' : Rho} {σ σ' : St} {H0 H H0' H' : Hp}
/-- a new thing is laid that stays -/
theorem REnv.newI (E : REnv G ρ σ H0 H) {p : Addr} {o : HO} (hp : H p = none) (nt : ∀ ps, o ≠ .tbl ps := by intro ps z; cases z) : REnv G ρ σ (upd H0 p o) (upd H p o) := by
  have h0 : H0 p = none := E.ex.back hp
  refine ⟨E.tb.newI hp nt, fun a u e => ?_, E.len, fun i d e => ?_, E.fn, fun i ns e => (E.fz i ns e).imp fun a h => ⟨h.1, ex_l (Ex.new h0) h.2⟩, fun i ns e => (E.tt i ns e).imp fun a h => ⟨h.1, h.2.ex (Ex.new h0)⟩, fun i xs e => ?_, E.ap⟩
  · by_cases ha : a = p
    · subst ha; rw [upd_same] at e ⊢; exact e
    · rw [upd_ne ha] at e ⊢; exact E.ex a u e
  · obtain ⟨v, h1, h2⟩ := E.im i d e
    exact ⟨v, h1, h2.ex (Ex.new h0)⟩
  · obtain ⟨a, vs, h1, h2, h3, h4⟩ := E.ow i xs e
    have ha : a ≠ p := ne_of_none h2 hp
    exact ⟨a, vs, h1, by rw [upd_ne ha]; exact h2, by rw [upd_ne ha]; exact h3, h4.ex (Ex.new h0)⟩
theorem Tr.newI (hp : H p = none) (h0 : H0 p = none) {o : HO} : Tr ρ σ H0 H ρ σ (upd H0 p o) (upd H p o) :=
  ⟨Ex.new h0, fun a u h _ n _ => by
    have ha : a ≠ p := ne_of_none h hp
    exact ⟨by rw [upd_ne ha]; exact h, by rw [upd_ne ha]; exact n⟩, fun a h => .inl h, fun a h => h.upd hp⟩
/-- a new thing is laid, of one's own or of nobody -/
theorem REnv.newO (E : REnv G ρ σ H0 H) {p : Addr} {o : HO} (hp : H p = none) : REnv G ρ σ H0 (upd H p o) := by
  refine ⟨E.tb.newO hp, E.ex.trans (Ex.new hp), E.len, E.im, E.fn, E.fz, E.tt, fun i xs e => ?_, E.ap⟩
  obtain ⟨a, vs, h1, h2, h3, h4⟩ := E.ow i xs e
  exact ⟨a, vs, h1, by rw [upd_ne (ne_of_none h2 hp)]; exact h2, h3, h4⟩
theorem Tr.newO (hp : H p = none) {o : HO} : Tr ρ σ H0 H ρ σ H0 (upd H p o) :=
  ⟨Ex.refl _, fun a u h _ n _ => ⟨by rw [upd_ne (ne_of_none h hp)]; exact h, n⟩, fun a h => .inl h, fun a h => h.upd hp⟩
theorem RSl.newO (E : REnv G ρ σ H0 H) {p : Addr} {vs : List V} {xs : List D} (hp : H p = none) (r : Reps G H0 xs vs) : RSl G ρ σ H ρ H0 (upd H p (.lst vs)) (.ow xs) (.ref p) :=
  ⟨p, vs, rfl, upd_same, E.ex.back hp, r, (fun ⟨i, ys, e1, e2⟩ => by
    obtain ⟨a, ws, h1, h2, _⟩ := E.ow i ys e1
    rw [e2] at h1; cases h1; rw [hp] at h2; cases h2), .inr (nn hp)⟩

/-- a list of one's own is given up: it stays from now on -/
theorem REnv.freezeA (E : REnv G ρ σ H0 H) {a : Addr} {vs : List V} (ha : H a = some (.lst vs)) (h0 : H0 a = none) (no : ¬ Own ρ σ a) : REnv G ρ σ (upd H0 a (.lst vs)) H := by
  refine ⟨E.tb.freeze ha, fun b u e => ?_, E.len, fun i d e => ?_, E.fn, fun i ns e => (E.fz i ns e).imp fun a h => ⟨h.1, ex_l (Ex.new h0) h.2⟩, fun i ns e => (E.tt i ns e).imp fun a h => ⟨h.1, h.2.ex (Ex.new h0)⟩, fun i xs e => ?_, E.ap⟩
  · by_cases hb : b = a
    · subst hb; rw [upd_same] at e; cases e; exact ha
    · rw [upd_ne hb] at e; exact E.ex b u e
  · obtain ⟨v, h1, h2⟩ := E.im i d e
    exact ⟨v, h1, h2.ex (Ex.new h0)⟩
  · obtain ⟨b, ws, h1, h2, h3, h4⟩ := E.ow i xs e
    have hb : b ≠ a := fun z => no ⟨i, xs, e, by rw [← z]; exact h1⟩
    exact ⟨b, ws, h1, h2, by rw [upd_ne hb]; exact h3, h4.ex (Ex.new h0)⟩
theorem Tr.freezeA (T : Tr ρ σ H0 H ρ' σ' H0' H') {a : Addr} {o : HO} (h0 : H0' a = none) (c : Own ρ σ a ∨ Nn H a) : Tr ρ σ H0 H ρ' σ' (upd H0' a o) H' :=
  ⟨T.ex.trans (Ex.new h0), fun b u h nt n no => by
    obtain ⟨h1, n1⟩ := T.fr' b u h nt n no
    have hb : b ≠ a := fun z => by
      rcases c with c | c
      · exact no (by rw [z]; exact c)
      · rw [z] at h; exact c.not h nt
    exact ⟨h1, by rw [upd_ne hb]; exact n1⟩, T.nw, T.kp⟩
theorem own_set_im {i : Nat} {d : D} {a : Addr} (h : Own (ρ.set i (some (.im d))) σ a) : Own ρ σ a := by
  obtain ⟨j, xs, e1, e2⟩ := h
  by_cases hj : i = j
  · subst hj
    by_cases hl : i < ρ.length
    · rw [List.getElem?_set_self hl] at e1; cases e1
    · rw [List.getElem?_eq_none (by simpa using hl)] at e1; cases e1
  · rw [List.getElem?_set_ne hj] at e1
    exact ⟨j, xs, e1, e2⟩
/-- a name's own list is given up -/
theorem REnv.freezeS (E : REnv G ρ σ H0 H) {i : Nat} {xs : List D} (e : ρ[i]? = some (some (.ow xs))) :
    ∃ a vs, σ[i]? = some (some (.ref a)) ∧ H a = some (.lst vs) ∧ Reps G H0 xs vs ∧ REnv G (ρ.set i (some (.im (.list xs)))) σ (upd H0 a (.lst vs)) H ∧
      Tr ρ σ H0 H (ρ.set i (some (.im (.list xs)))) σ (upd H0 a (.lst vs)) H ∧ Rep G (upd H0 a (.lst vs)) (.list xs) (.ref a) := by
  obtain ⟨a, vs, h1, h2, h3, h4⟩ := E.ow i xs e
  have hr : Rep G (upd H0 a (.lst vs)) (.list xs) (.ref a) := rep_lst upd_same (h4.ex (Ex.new h3))
  have hi : i < ρ.length := by
    by_cases hi : i < ρ.length
    · exact hi
    · rw [List.getElem?_eq_none (by simpa using hi)] at e; cases e
  refine ⟨a, vs, h1, h2, h4, ⟨E.tb.freeze h2, fun b u q => ?_, by simp [E.len], fun j d q => ?_, fun j d q => ?_, fun j d q => ?_, fun j d q => ?_, fun j ys q => ?_, fun j k ys zs b q1 q2 q3 q4 => ?_⟩, ⟨Ex.new h3, fun b o h _ n no => ⟨h, ?_⟩, fun b h => .inl (own_set_im h), fun _ h => h⟩, hr⟩
  · by_cases hb : b = a
    · subst hb; rw [upd_same] at q; cases q; exact h2
    · rw [upd_ne hb] at q; exact E.ex b u q
  · by_cases hj : i = j
    · subst hj
      rw [List.getElem?_set_self hi] at q
      cases q
      exact ⟨_, h1, hr⟩
    · rw [List.getElem?_set_ne hj] at q
      obtain ⟨v, q1, q2⟩ := E.im j d q
      exact ⟨v, q1, q2.ex (Ex.new h3)⟩
  · by_cases hj : i = j
    · subst hj; rw [List.getElem?_set_self hi] at q; cases q
    · rw [List.getElem?_set_ne hj] at q; exact E.fn j d q
  · by_cases hj : i = j
    · subst hj; rw [List.getElem?_set_self hi] at q; cases q
    · rw [List.getElem?_set_ne hj] at q; exact (E.fz j d q).imp fun a h => ⟨h.1, ex_l (Ex.new h3) h.2⟩
  · by_cases hj : i = j
    · subst hj; rw [List.getElem?_set_self hi] at q; cases q
    · rw [List.getElem?_set_ne hj] at q; exact (E.tt j d q).imp fun a h => ⟨h.1, h.2.ex (Ex.new h3)⟩
  · by_cases hj : i = j
    · subst hj; rw [List.getElem?_set_self hi] at q; cases q
    · rw [List.getElem?_set_ne hj] at q
      obtain ⟨b, ws, q1, q2, q3, q4⟩ := E.ow j ys q
      have hb : b ≠ a := fun z => by subst z; exact hj (E.ap i j xs ys b e q h1 q1)
      exact ⟨b, ws, q1, q2, by rw [upd_ne hb]; exact q3, q4.ex (Ex.new h3)⟩
  · have n1 : i ≠ j := fun z => by subst z; rw [List.getElem?_set_self hi] at q1; cases q1
    have n2 : i ≠ k := fun z => by subst z; rw [List.getElem?_set_self hi] at q2; cases q2
    rw [List.getElem?_set_ne n1] at q1
    rw [List.getElem?_set_ne n2] at q2
    exact E.ap j k ys zs b q1 q2 q3 q4
  · have hb : b ≠ a := fun z => no ⟨i, xs, e, by rw [z]; exact h1⟩
    rw [upd_ne hb]; exact n

/-- a value is stored to a name -/
theorem REnv.store (E : REnv G ρ' σ H0' H') (T : Tr ρ σ H0 H ρ' σ H0' H') {i : Nat} {s : Sl} {v : V} (hi : i < ρ'.length) (r : RSl G ρ σ H ρ' H0' H' s v) :
    REnv G (ρ'.set i (some s)) (σ.set i (some v)) H0' H' ∧ Tr ρ σ H0 H (ρ'.set i (some s)) (σ.set i (some v)) H0' H' := by
  have his : i < σ.length := by rw [← E.len]; exact hi
  have back : ∀ a, Own (ρ'.set i (some s)) (σ.set i (some v)) a → Own ρ' σ a ∨ (∃ xs, s = .ow xs ∧ v = .ref a) := fun a ⟨j, xs, e1, e2⟩ => by
    by_cases hj : i = j
    · subst hj
      rw [List.getElem?_set_self hi] at e1
      rw [List.getElem?_set_self his] at e2
      cases e1; cases e2
      exact .inr ⟨xs, rfl, rfl⟩
    · rw [List.getElem?_set_ne hj] at e1 e2
      exact .inl ⟨j, xs, e1, e2⟩
  refine ⟨⟨E.tb, E.ex, by simp [E.len], fun j d q => ?_, fun j d q => ?_, fun j d q => ?_, fun j d q => ?_, fun j ys q => ?_, fun j k ys zs b q1 q2 q3 q4 => ?_⟩, ⟨T.ex, T.fr', fun a h => ?_, T.kp⟩⟩
  · by_cases hj : i = j
    · subst hj
      rw [List.getElem?_set_self hi] at q
      cases q
      exact ⟨v, List.getElem?_set_self his, r⟩
    · rw [List.getElem?_set_ne hj] at q ⊢
      exact E.im j d q
  · by_cases hj : i = j
    · subst hj
      rw [List.getElem?_set_self hi] at q
      cases q
      obtain ⟨a, rfl, h⟩ := r
      exact ⟨a, List.getElem?_set_self his, h⟩
    · rw [List.getElem?_set_ne hj] at q ⊢
      exact E.fn j d q
  · by_cases hj : i = j
    · subst hj
      rw [List.getElem?_set_self hi] at q
      cases q
      obtain ⟨a, rfl, h⟩ := r
      exact ⟨a, List.getElem?_set_self his, h⟩
    · rw [List.getElem?_set_ne hj] at q ⊢
      exact E.fz j d q
  · by_cases hj : i = j
    · subst hj
      rw [List.getElem?_set_self hi] at q
      cases q
      obtain ⟨a, rfl, h⟩ := r
      exact ⟨a, List.getElem?_set_self his, h⟩
    · rw [List.getElem?_set_ne hj] at q ⊢
      exact E.tt j d q
  · by_cases hj : i = j
    · subst hj
      rw [List.getElem?_set_self hi] at q
      cases q
      obtain ⟨a, vs, rfl, h1, h2, h3, _⟩ := r
      exact ⟨a, vs, List.getElem?_set_self his, h1, h2, h3⟩
    · rw [List.getElem?_set_ne hj] at q ⊢
      exact E.ow j ys q
  · by_cases hj : i = j
    · by_cases hk : i = k
      · exact hj.symm.trans hk
      · subst hj
        rw [List.getElem?_set_self hi] at q1
        rw [List.getElem?_set_self his] at q3
        rw [List.getElem?_set_ne hk] at q2 q4
        cases q1; cases q3
        obtain ⟨a, vs, e, h1, h2, h3, h4, _⟩ := r
        cases e
        exact absurd ⟨k, zs, q2, q4⟩ h4
    · by_cases hk : i = k
      · subst hk
        rw [List.getElem?_set_self hi] at q2
        rw [List.getElem?_set_self his] at q4
        rw [List.getElem?_set_ne hj] at q1 q3
        cases q2; cases q4
        obtain ⟨a, vs, e, h1, h2, h3, h4, _⟩ := r
        cases e
        exact absurd ⟨j, ys, q1, q3⟩ h4
      · rw [List.getElem?_set_ne hj] at q1 q3
        rw [List.getElem?_set_ne hk] at q2 q4
        exact E.ap j k ys zs b q1 q2 q3 q4
  · rcases back a h with z | ⟨xs, e1, e2⟩
    · exact T.nw a z
    · subst e1
      obtain ⟨b, vs, e, _, _, _, _, c⟩ := r
      rw [e2] at e; cases e
      exact c
/-- a name's own list is changed -/
theorem REnv.write (E : REnv G ρ σ H0 H) {i : Nat} {xs ys : List D} {a : Addr} {ws : List V} (e : ρ[i]? = some (some (.ow xs))) (ha : σ[i]? = some (some (.ref a))) (r : Reps G H0 ys ws) :
    REnv G (ρ.set i (some (.ow ys))) σ H0 (upd H a (.lst ws)) ∧ Tr ρ σ H0 H (ρ.set i (some (.ow ys))) σ H0 (upd H a (.lst ws)) := by
  obtain ⟨a', vs, h1, h2, h3, h4⟩ := E.ow i xs e
  rw [ha] at h1; cases h1
  have hi : i < ρ.length := by
    by_cases hi : i < ρ.length
    · exact hi
    · rw [List.getElem?_eq_none (by simpa using hi)] at e; cases e
  have back : ∀ {j : Nat} {zs}, (ρ.set i (some (.ow ys)))[j]? = some (some (.ow zs)) → ∃ us, ρ[j]? = some (some (.ow us)) := fun {j zs} q => by
    by_cases hj : i = j
    · subst hj; exact ⟨xs, e⟩
    · rw [List.getElem?_set_ne hj] at q; exact ⟨zs, q⟩
  refine ⟨⟨E.tb.lst h2, fun b u q => ?_, by simp [E.len], fun j d q => ?_, fun j d q => ?_, fun j d q => ?_, fun j d q => ?_, fun j zs q => ?_, fun j k us zs b q1 q2 q3 q4 => ?_⟩, ⟨Ex.refl _, fun b o h _ n no => ⟨?_, n⟩, fun b ⟨j, zs, q1, q2⟩ => .inl ?_, fun b h => ?_⟩⟩
  · have hb : b ≠ a := fun z => by rw [z, h3] at q; cases q
    rw [upd_ne hb]; exact E.ex b u q
  · by_cases hj : i = j
    · subst hj; rw [List.getElem?_set_self hi] at q; cases q
    · rw [List.getElem?_set_ne hj] at q; exact E.im j d q
  · by_cases hj : i = j
    · subst hj; rw [List.getElem?_set_self hi] at q; cases q
    · rw [List.getElem?_set_ne hj] at q; exact E.fn j d q
  · by_cases hj : i = j
    · subst hj; rw [List.getElem?_set_self hi] at q; cases q
    · rw [List.getElem?_set_ne hj] at q; exact E.fz j d q
  · by_cases hj : i = j
    · subst hj; rw [List.getElem?_set_self hi] at q; cases q
    · rw [List.getElem?_set_ne hj] at q; exact E.tt j d q
  · by_cases hj : i = j
    · subst hj
      rw [List.getElem?_set_self hi] at q
      cases q
      exact ⟨a, ws, ha, upd_same, h3, r⟩
    · rw [List.getElem?_set_ne hj] at q
      obtain ⟨b, us, q1, q2, q3, q4⟩ := E.ow j zs q
      have hb : b ≠ a := fun z => by subst z; exact hj (E.ap i j xs zs b e q ha q1)
      exact ⟨b, us, q1, by rw [upd_ne hb]; exact q2, q3, q4⟩
  · obtain ⟨_, e1⟩ := back q1
    obtain ⟨_, e2⟩ := back q2
    exact E.ap j k _ _ b e1 e2 q3 q4
  · have hb : b ≠ a := fun z => no ⟨i, xs, e, by rw [z]; exact ha⟩
    rw [upd_ne hb]; exact h
  · obtain ⟨us, e1⟩ := back q1
    exact ⟨j, us, e1, q2⟩
  · exact Nn.put (o := .lst ws) h
end
mutual
theorem Rep.dp {G : Ctx} {H : Hp} : ∀ {d : D} {v : V}, d.hasDict = false → Rep G H d v → Dp G.1 H v d
  | .none, _, _, h => by simp only [Rep] at h; subst h; exact .non
  | .bool b, _, _, h => by simp only [Rep] at h; subst h; exact .bl _
  | .int i, _, _, h => by simp only [Rep] at h; subst h; exact .int _
  | .str x, _, _, h => by simp only [Rep] at h; subst h; exact .str _
  | .dict x, _, n, h => by simp [PyData.hasDict] at n
  | .tuple ds, _, n, h => by
    simp only [Rep] at h
    obtain ⟨a, vs, e1, h1, h2⟩ := h
    subst e1
    exact .tup (.inl h1.rd) (h2.dps (by simpa [PyData.hasDict] using n))
  | .list ds, _, n, h => by
    simp only [Rep] at h
    obtain ⟨a, vs, e1, h1, h2⟩ := h
    subst e1
    exact .lst (SqL.of h1) (h2.dps (by simpa [PyData.hasDict] using n))
theorem Reps.dps {G : Ctx} {H : Hp} : ∀ {ds : List D} {vs : List V}, PyData.hasDictAll ds = false → Reps G H ds vs → DpAll G.1 H vs ds
  | [], _, _, h => by simp only [Reps] at h; subst h; exact .nil
  | d :: ds, _, n, h => by
    simp only [Reps] at h
    obtain ⟨w, ws, e1, h1, h2⟩ := h
    subst e1
    have n' : d.hasDict = false ∧ PyData.hasDictAll ds = false := by simpa [PyData.hasDictAll] using n
    exact .cons (h1.dp n'.1) (h2.dps n'.2)
end
end Dv

set_option Elab.async false
set_option linter.all false
set_option maxRecDepth 100000
set_option maxHeartbeats 1000000
namespace Dv
open PySem PySem.Spec L2
open PyProof.Rows
/-! a tuple taken once is that tuple -/
theorem tup_once (l : Addr) (its : Array Value) (n : Nat) (dd : Option Addr) (sl : Array (Option Value)) (k : Int) (t : Tok) (c0 : (decide (k < -(2 ^ 63)) || decide (k ≥ 2 ^ 63)) = false) (c1 : (its.isEmpty || k == 1) = true) :
    Meets (Builtin.«tuple.__mul__» ⟨[.ref l, .int k t], []⟩) (fun _ R s => s.heap.get? l = some { cls := .type "tuple", dict := dd, data := .seq its n, slots := sl } ∧ R (.ok (.ret (.ref l))) s) := .of_wp fun prog w A R s h => by
  obtain ⟨hp, g, d, tk, os⟩ := s
  obtain ⟨hl, h⟩ := h
  have f1 := AutoSeq1.idx_int
  wp_walk using wpAny_loadPart' hl
  repeat (first
    | (refine wpAny_ite_false (decide_eq_false (by rw [c0]; decide)) ?_; wp_walk using wpAny_loadPart' hl)
    | (refine wpAny_ite_true (decide_eq_true c1) ?_; wp_walk using wpAny_loadPart' hl))
  exact ⟨_, rfl, h⟩
theorem op_once {X : L2.Cx} : OpR X (binaryOp .Mult) (fun x y H Q => ∃ l k xs, x = .ref l ∧ y = .int k ∧ SqT X.K H l xs ∧ (xs = [] ∨ k = 1) ∧ (-1000 ≤ k ∧ k ≤ 1000) ∧ Q (.ref l) H) := by
  intro pins s σ H x y v u Q I rx ry h
  obtain ⟨l, k, xs, rfl, rfl, hT, hc, hk, q⟩ := h
  cases rx
  obtain ⟨t, rfl⟩ := ry
  obtain ⟨its, r, ⟨⟨cls, dd, data, sl⟩, ho, h1, n, h2⟩, _⟩ := I.tuple hT
  simp only at h1 h2
  subst h1 h2
  have c0 : (decide (k < -(2 ^ 63)) || decide (k ≥ 2 ^ 63)) = false := by
    rw [Bool.or_eq_false_iff, decide_eq_false_iff_not, decide_eq_false_iff_not]
    omega
  have c1 : (its.toArray.isEmpty || k == 1) = true := by
    rcases hc with rfl | rfl
    · cases its with
      | nil => rfl
      | cons a b => exact absurd r.length (by simp)
    · rw [Bool.or_eq_true]; exact .inr rfl
  refine wpAny_binaryOp_repeat_ref (U := "int") (T := "tuple") (by decide) ⟨_, ho, rfl⟩ (fun z => typeIs_int z k t) noFill_tuple_mul F.fills_int_mul F.slot_int_rmul repeat_tuple F.slot_int_index.lookup ?_
  refine call_meets F.slot_int_rmul (typeIs_int s k t) F.entry_int_rmul (F.args_int_rmul_2 _ _) (int_rmul_tuple k t l its.toArray n dd sl) ⟨ho, rfl, ⟨_, ho, rfl⟩, ?_⟩
  exact call_meets F.slot_tuple_mul ⟨_, ho, rfl⟩ F.entry_tuple_mul (F.args_tuple_mul_2 _ _) (tup_once l its.toArray n dd sl k t c0 c1) ⟨ho, .ref l, H, I, rfl, q⟩
end Dv

set_option Elab.async false
set_option linter.all false
set_option maxRecDepth 100000
set_option maxHeartbeats 1000000
namespace Dv
open PySem PySem.Spec PyProof.Rows L2
/-! new tuples, all known of them -/
abbrev tupO (us : List Value) : Obj := { cls := .type "tuple", data := .seq us.toArray }
/-- what a new tuple is: of no dict of its own -/
def NewT (xs : List V) (H : Hp) (Q : VK) : Prop := ∀ p o, H p = none → o.dict = none → Q (.ref p) (upd H p (.frz o (.tup xs)))
section
variable {X : L2.Cx} {pins : List (Addr × Obj)} {σ : L2.St} {H : Hp} {s : Shared} {xs : List V} {us : List Value} {Q : VK}
theorem laidT {h : Heap} {tk : Tok} (I : L2.Inv X pins σ H { s with heap := h, toks := tk }) (r : Vals xs us) (hz : xs.length ≤ sizeLine) (q : NewT xs H Q) : EP X pins σ Q (.ref h.objs.size) { s with heap := h.push (tupO us), toks := tk } := by
  have new : (h.push (tupO us)).get? h.objs.size = some (tupO us) := Heap.get?_push_size _ rfl
  have J : L2.Inv X pins σ (upd H h.objs.size (.frz (tupO us) (.tup xs))) { s with heap := h.push (tupO us), toks := tk } :=
    I.laid (t' := tk) (fun b o e => Heap.get?_push_of_some _ e) (Nat.le_refl _) (show ObjOk X.prog X.w _ _ _ (.frz (tupO us) (.tup xs)) from ⟨new, hz, us, r, ⟨tupO us, new, rfl, _, rfl⟩⟩)
  exact ⟨.ref h.objs.size, _, J, rfl, q _ (tupO us) (I.hok.fresh (Nat.le_refl _)) rfl⟩
end
section
variable {X : L2.Cx} {es : List Expr} {t : TA} {pos p2 : Pos}
def tTupN (t : TA) : TE := fun σ H Q => t σ H fun xs H1 => xs.length ≤ sizeLine ∧ NewT xs H1 Q
theorem pe_tupN {j : Nat} (h : PA X es t) : PE X (.Tuple es j pos) (tTupN t) := ⟨fun pins s σ H Q I hq =>
  wpAny_Tuple_spliced (thn (h.run pos pins s σ H _ I hq) fun us s1 ⟨xs, H1, I1, r, z, q⟩ => ⟨by rw [← r.length]; exact z, laidT (s := s1) (h := s1.heap) (tk := s1.toks) I1 r z q⟩)⟩
/-- t + u -/
def rCatN (K : PySem.W.Frag) : R2 := fun x y H Q => ∃ a b xs ys, x = .ref a ∧ y = .ref b ∧ SqT K H a xs ∧ SqT K H b ys ∧ xs.length + ys.length ≤ sizeLine ∧
  (xs = [] → Q (.ref b) H) ∧ (xs ≠ [] → ys = [] → Q (.ref a) H) ∧ (xs ≠ [] → ys ≠ [] → NewT (xs ++ ys) H Q)
theorem op_catN : OpR X (binaryOp .Add) (rCatN X.K) := by
  intro pins s σ H x y v u Q I rx ry h
  obtain ⟨a, b, xs, ys, rfl, rfl, ha, hb, hz, q0, q1, q2⟩ := h
  cases rx
  cases ry
  obtain ⟨us, r1, p1, _⟩ := I.tuple ha
  obtain ⟨ws, r2, p2, _⟩ := I.tuple hb
  cases hx : xs with
  | nil =>
    subst hx
    cases r1
    exact cat_tup0 p1 p2 ⟨.ref b, H, I, rfl, q0 rfl⟩
  | cons z zs =>
    have ne : xs ≠ [] := by rw [hx]; exact List.cons_ne_nil _ _
    refine HT.cat_tup p1 p2 (fun e => ne (r1.nil_iff.mp e)) (fun e => ⟨.ref a, H, I, rfl, q1 ne (r2.nil_iff.mp e)⟩) (fun e => ?_) (by have := r1.length; have := r2.length; omega)
    exact laidT (s := s) (h := s.heap) (tk := s.toks) I (r1.append r2) (by rw [List.length_append]; exact hz) (q2 ne fun e' => e (r2.nil_iff.mpr e'))
/-- t[lo:hi] -/
def rSlN (K : PySem.W.Frag) : V → Option Int → Option Int → Hp → VK → Prop := fun x lo hi H Q => ∃ a xs, x = .ref a ∧ SqT K H a xs ∧
  (HT.sIx xs.length 0 lo = 0 ∧ HT.sIx xs.length xs.length hi = xs.length → Q (.ref a) H) ∧ (¬ (HT.sIx xs.length 0 lo = 0 ∧ HT.sIx xs.length xs.length hi = xs.length) → NewT (cutV xs lo hi) H Q)
theorem sl_tupN : SlR X (rSlN X.K) := by
  intro pins s σ H x v vl vu lo hi sl Q I rx hs pl pu h
  obtain ⟨a, xs, rfl, hx, q1, q2⟩ := h
  cases rx
  obtain ⟨us, r, p, hz⟩ := I.tuple hx
  have n : us.toArray.size = xs.length := by rw [List.size_toArray, ← r.length]
  refine ⟨"tuple", _, PyProof.Rows.slot_tuple_getitem.lookup, p.typeIs, ?_⟩
  by_cases hw : HT.sIx xs.length 0 lo = 0 ∧ HT.sIx xs.length xs.length hi = xs.length
  · exact getItem_tuple_whole p hs pl pu (by rw [n]; exact hw) ⟨.ref a, H, I, rfl, q1 hw⟩
  · refine HT.getItem_tuple_cut p hs pl pu (by rw [n]; exact hw) ?_ (by rw [n]; exact hz)
    rw [n]
    exact laidT (s := s) (h := s.heap) (tk := s.toks) I (show Vals (cutV xs lo hi) _ from (r.drop _).take _) (Nat.le_trans (cutV_length xs lo hi) hz) (q2 hw)
/-- t * k -/
theorem op_repN : OpR X (binaryOp .Mult) (fun x y H Q => ∃ l k xs, x = .ref l ∧ y = .int k ∧ SqT X.K H l xs ∧ xs ≠ [] ∧ 2 ≤ k ∧ k ≤ 1000 ∧ xs.length ≤ 1000 ∧ NewT (List.replicate k.toNat xs).flatten H Q) := by
  intro pins s σ H x y v u Q I rx ry h
  obtain ⟨l, k, xs, rfl, rfl, hT, hne, h1, h2, hz, q⟩ := h
  cases rx
  obtain ⟨t, rfl⟩ := ry
  obtain ⟨us, r, ⟨⟨cls, dd, data, sl⟩, ho, hc, n, hd⟩, hs⟩ := I.tuple hT
  simp only at hc hd
  subst hc hd
  have n1 := r.length
  have bound : k.toNat * xs.length ≤ 1000 * 1000 := Nat.mul_le_mul (by omega) hz
  have nU : (List.replicate k.toNat us).flatten.length ≤ sizeLine := by
    rw [lm_len_rep_flat, ← n1]
    exact Nat.le_trans bound (by decide)
  have e0 : us.toArray.isEmpty = false := by
    cases us with
    | nil => exact absurd (List.eq_nil_of_length_eq_zero (by rw [n1]; rfl)) hne
    | cons a b => rfl
  have top : ((us.toArray.size : Nat) : Int) * k ≤ 1000000 := by
    have a1 : ((us.toArray.size : Nat) : Int) * k ≤ 1000 * k := Int.mul_le_mul_of_nonneg_right (by rw [List.size_toArray]; omega) (by omega)
    omega
  have c0 : (decide (k < -(2 ^ 63)) || decide (k ≥ 2 ^ 63)) = false := by
    rw [Bool.or_eq_false_iff, decide_eq_false_iff_not, decide_eq_false_iff_not]
    omega
  have c1 : (us.toArray.isEmpty || k == 1) = false := by
    rw [e0, Bool.false_or, beq_eq_false_iff_ne]
    omega
  have c2 : (decide (k ≤ 0) || us.toArray.isEmpty) = false := by
    rw [e0, Bool.or_false, decide_eq_false_iff_not]
    omega
  have c4 : Builtin.Tuple.tupleTooMany (((us.toArray.size : Nat) : Int) * k) = false := by
    unfold Builtin.Tuple.tupleTooMany
    rw [decide_eq_false_iff_not, sizeLine_eq]
    omega
  refine wpAny_binaryOp_repeat_ref (U := "int") (T := "tuple") (by decide) ⟨_, ho, rfl⟩ (fun z => typeIs_int z k t) noFill_tuple_mul F.fills_int_mul F.slot_int_rmul repeat_tuple F.slot_int_index.lookup ?_
  refine call_meets F.slot_int_rmul (typeIs_int s k t) F.entry_int_rmul (F.args_int_rmul_2 _ _) (int_rmul_tuple k t l us.toArray n dd sl) ⟨ho, rfl, ⟨_, ho, rfl⟩, ?_⟩
  refine call_meets F.slot_tuple_mul ⟨_, ho, rfl⟩ F.entry_tuple_mul (F.args_tuple_mul_2 _ _) (tuple_mulW l us.toArray n dd sl k t c0 c1 c2 (by omega) c4 (by rw [size_rep, List.size_toArray]; exact nU)) ⟨ho, ?_⟩
  rw [size_rep]
  exact laidT (s := s) (h := s.heap) (tk := s.toks) I (r.rep k.toNat) (by rw [lm_len_rep_flat]; exact Nat.le_trans bound (by decide)) q
/-- .. none of it -/
theorem tup_none (l : Addr) (its : Array Value) (n : Nat) (dd : Option Addr) (sl : Array (Option Value)) (k : Int) (t : Tok) (c0 : (decide (k < -(2 ^ 63)) || decide (k ≥ 2 ^ 63)) = false) (c1 : (its.isEmpty || k == 1) = false) (c2 : (decide (k ≤ 0) || its.isEmpty) = true) :
    Meets (Builtin.«tuple.__mul__» ⟨[.ref l, .int k t], []⟩) (fun _ R s => s.heap.get? l = some { cls := .type "tuple", dict := dd, data := .seq its n, slots := sl } ∧ R (.ok (.ret (.ref s.heap.objs.size))) { s with heap := s.heap.push { cls := .type "tuple", data := .seq #[] }, toks := s.toks }) := .of_wp fun prog w A R s h => by
  obtain ⟨hp, g, d, tk, os⟩ := s
  obtain ⟨hl, h⟩ := h
  have f1 := AutoSeq1.idx_int
  wp_walk using AutoSeq1.wpAny_loadPart' hl
  repeat (first
    | (refine wpAny_ite_false (decide_eq_false (by rw [c0]; decide)) ?_; wp_walk using AutoSeq1.wpAny_loadPart' hl)
    | (refine wpAny_ite_false (decide_eq_false (by rw [c1]; decide)) ?_; wp_walk using AutoSeq1.wpAny_loadPart' hl)
    | (refine wpAny_ite_true (decide_eq_true c2) ?_; wp_walk using AutoSeq1.wpAny_loadPart' hl))
  exact ⟨_, rfl, h⟩
theorem op_zeroN : OpR X (binaryOp .Mult) (fun x y H Q => ∃ l k xs, x = .ref l ∧ y = .int k ∧ SqT X.K H l xs ∧ xs ≠ [] ∧ (-1000 ≤ k ∧ k ≤ 0) ∧ NewT [] H Q) := by
  intro pins s σ H x y v u Q I rx ry h
  obtain ⟨l, k, xs, rfl, rfl, hT, hne, hk, q⟩ := h
  cases rx
  obtain ⟨t, rfl⟩ := ry
  obtain ⟨us, r, ⟨⟨cls, dd, data, sl⟩, ho, hc, n, hd⟩, hs⟩ := I.tuple hT
  simp only at hc hd
  subst hc hd
  have n1 := r.length
  have e0 : us.toArray.isEmpty = false := by
    cases us with
    | nil => exact absurd (List.eq_nil_of_length_eq_zero (by rw [n1]; rfl)) hne
    | cons a b => rfl
  have c0 : (decide (k < -(2 ^ 63)) || decide (k ≥ 2 ^ 63)) = false := by
    rw [Bool.or_eq_false_iff, decide_eq_false_iff_not, decide_eq_false_iff_not]
    omega
  have c1 : (us.toArray.isEmpty || k == 1) = false := by
    rw [e0, Bool.false_or, beq_eq_false_iff_ne]
    omega
  have c2 : (decide (k ≤ 0) || us.toArray.isEmpty) = true := by
    rw [decide_eq_true hk.2, Bool.true_or]
  refine wpAny_binaryOp_repeat_ref (U := "int") (T := "tuple") (by decide) ⟨_, ho, rfl⟩ (fun z => typeIs_int z k t) noFill_tuple_mul F.fills_int_mul F.slot_int_rmul repeat_tuple F.slot_int_index.lookup ?_
  refine call_meets F.slot_int_rmul (typeIs_int s k t) F.entry_int_rmul (F.args_int_rmul_2 _ _) (int_rmul_tuple k t l us.toArray n dd sl) ⟨ho, rfl, ⟨_, ho, rfl⟩, ?_⟩
  refine call_meets F.slot_tuple_mul ⟨_, ho, rfl⟩ F.entry_tuple_mul (F.args_tuple_mul_2 _ _) (tup_none l us.toArray n dd sl k t c0 c1 c2) ⟨ho, ?_⟩
  exact laidT (s := s) (h := s.heap) (tk := s.toks) (us := []) I .nil (Nat.zero_le _) q
/-- divmod(i, j) -/
theorem call_divmodN : CallR X (.builtin "divmod") (fun xs H Q => ∃ i j, xs = [.int i, .int j] ∧ CDiv i j ∧ NewT [.int (i / j), .int (i % j)] H Q) := by
  intro pins s σ H xs us Q I r h
  obtain ⟨i, j, rfl, ⟨h1, h2⟩, q⟩ := h
  obtain ⟨u, v, rfl, ⟨t, rfl⟩, ⟨t', rfl⟩⟩ := vals2 r
  have z : wpAny (model X.prog X.w) X.A (call (.builtin "divmod") [.int i t, .int j t']) (EP X pins σ Q) X.xe s := by
    refine divmod_int (by omega) ?_ (.inl (PyProof.noPylong_small (by omega)))
    rw [Int.fdiv_eq_ediv_of_nonneg i (by omega), Int.fmod_eq_emod_of_nonneg i (by omega)]
    exact laidT (s := s) (h := s.heap) (tk := s.toks + 2) (xs := [.int (i / j), .int (i % j)]) (us := [.int (i / j) s.toks, .int (i % j) (s.toks + 1)]) (I.tok _) (.cons ⟨_, rfl⟩ (.cons ⟨_, rfl⟩ .nil)) (show 2 ≤ sizeLine by decide) q
  exact z
/-- tuple(l), tuple(t) -/
theorem call_tupleN : CallR X (.type "tuple") (fun xs H Q => ∃ a ys, xs = [.ref a] ∧ ((SqL X.K H a ys ∧ NewT ys H Q) ∨ (SqT X.K H a ys ∧ Q (.ref a) H))) := by
  intro pins s σ H xs us Q I r h
  obtain ⟨a, ys, rfl, h⟩ := h
  obtain ⟨u, rfl, ru⟩ := vals1 r
  cases ru
  rcases h with ⟨h1, q⟩ | ⟨h1, q⟩
  · obtain ⟨us, hu, pl, sm⟩ := I.list h1
    have n := hu.length
    refine call_tuple_list pl.isList (fun h2 kp => ?_) (by rw [List.size_toArray]; omega)
    exact laidT (s := s) (h := h2) (tk := s.toks) (I.kept (t' := s.toks) kp) hu sm q
  · obtain ⟨us, _, p1, _⟩ := I.tuple h1
    exact call_tuple_same (items := us.toArray) p1 ⟨.ref a, H, I, rfl, q⟩
/-- tuple(range(..)) -/
def tTupRgN (te : L2.St → Hp → (Int → Int → Hp → Prop) → Prop) : TE := fun σ H Q => te σ H fun a b H1 => RgOk a b ∧ NewT (rgV a b) H1 Q
theorem pe_tupRgN {e : Expr} {te : L2.St → Hp → (Int → Int → Hp → Prop) → Prop} {p : Pos} (hc : X.calm = true) (hg : Gl X "tuple") (hm : X.mg "tuple" = none) (he : PRg X e te) (na : starEach [e] X.env = (false, eval e X.env) :: starEach [] X.env := by rfl) :
    PE X (.Call (.Name "tuple" p) [e] [] pos) (tTupRgN te) := ⟨fun pins s σ H Q I h =>
  Call_ (ld_blt I hg hm boot_tuple (callWith_type1 (args_cons (thn (he pins s σ H _ I h) fun x s1 ⟨r, a, b, t, u, v, H1, ex, hr, I1, ok, q⟩ => args_nil (by
    subst ex
    obtain ⟨b1, b2, b3, b4, b5⟩ := ok
    refine call_tuple_range (n := (b - a).toNat) (I1.ok.hd hc) hr (small_one b1 b2 b3 b4) (rangeSize_nat a b) b5 fun h2 tk acc hk hi => ?_
    have := laidT (X := X) (pins := pins) (s := s1) (h := h2) (tk := tk) (us := acc.toList) (I1.kept hk) (vals_rg hi) (by rw [rgV_length, sizeLine_eq]; omega) q
    simpa using this)) na) na))⟩
end
end Dv

set_option Elab.async false
set_option linter.all false
set_option maxRecDepth 100000
set_option maxHeartbeats 4000000
namespace Dv
open PySem L2
variable [TabC]

abbrev Cx.G (X : L2.Cx) : Ctx := (X.K, X.mg)
/-! ### arguments and answers of a def -/
def RArg (G : Ctx) (H : Hp) : Sl → V → Prop
  | .im d, v => Rep G H d v
  | .fn x, v => ∃ a, v = .ref a ∧ G.2 x = some (.ref a)
  | .fz ns, v => ∃ a, v = .ref a ∧ SqL G.1 H a (ns.map V.int)
  | .tt ds, v => ∃ a, v = .ref a ∧ TupN G H a ds
  | .ow _, _ => False
theorem RArg.ex {G : Ctx} {H H' : Hp} (e : Ex H H') {s : Sl} {v : V} (h : RArg G H s v) : RArg G H' s v := by
  cases s with
  | im d => exact Rep.ex e h
  | fn x => exact h
  | fz x => obtain ⟨a, h1, h2⟩ := h; exact ⟨a, h1, ex_l e h2⟩
  | tt x => obtain ⟨a, h1, h2⟩ := h; exact ⟨a, h1, h2.ex e⟩
  | ow x => exact h
def RArgs (G : Ctx) (H : Hp) : List Sl → List V → Prop
  | [], vs => vs = []
  | d :: ds, vs => ∃ w ws, vs = w :: ws ∧ RArg G H d w ∧ RArgs G H ds ws
theorem RArgs.ex {G : Ctx} {H H' : Hp} (e : Ex H H') : ∀ {ds : List Sl} {vs : List V}, RArgs G H ds vs → RArgs G H' ds vs
  | [], _, h => h
  | d :: ds, _, h => by
    obtain ⟨w, ws, e1, h1, h2⟩ := h
    exact ⟨w, ws, e1, h1.ex e, RArgs.ex e h2⟩
theorem RArgs.length {G : Ctx} {H : Hp} : ∀ {ds : List Sl} {vs : List V}, RArgs G H ds vs → ds.length = vs.length
  | [], _, h => by rw [show _ = _ from h]; rfl
  | d :: ds, _, h => by
    obtain ⟨w, ws, e1, h1, h2⟩ := h
    subst e1
    simp [RArgs.length h2]
theorem RArgs.get {G : Ctx} {H : Hp} : ∀ {ds : List Sl} {vs : List V} {i : Nat} {d : Sl}, RArgs G H ds vs → ds[i]? = some d → ∃ v, vs[i]? = some v ∧ RArg G H d v
  | [], _, _, _, _, e => by simp at e
  | d :: ds, _, 0, _, h, e => by
    obtain ⟨w, ws, rfl, h1, _⟩ := h
    simp at e; subst e
    exact ⟨w, rfl, h1⟩
  | d :: ds, _, i + 1, _, h, e => by
    obtain ⟨w, ws, rfl, _, h2⟩ := h
    simpa using RArgs.get (i := i) h2 (by simpa using e)

structure TrF (ob : Option Addr) (H0 H H0' H' : Hp) : Prop where
  ex : Ex H0 H0'
  ex' : Ex H0' H'
  tb : TbOk H0' H'
  fr' : ∀ a o, H a = some o → (∀ ps, o ≠ .tbl ps) → H0 a = none → some a ≠ ob → H' a = some o ∧ H0' a = none
  kp : ∀ a, Nn H' a → Nn H a
theorem TrF.fr {ob : Option Addr} {H0 H H0' H' : Hp} (T : TrF ob H0 H H0' H') (a : Addr) {vs : List V} (o : HO) (h : H a = some o) (n : H0 a = none) (no : some a ≠ ob) (e : o = .lst vs := by rfl) : H' a = some o ∧ H0' a = none :=
  T.fr' a _ h (fun ps z => by rw [e] at z; cases z) n no
def RetOk (G : Ctx) (H H0' H' : Hp) : Sl → V → Prop
  | .im d, v => Rep G H0' d v
  | .ow xs, v => ∃ a vs, v = .ref a ∧ H' a = some (.lst vs) ∧ H0' a = none ∧ Reps G H0' xs vs ∧ Nn H a
  | .tt ds, v => ∃ a, v = .ref a ∧ TupN G H0' a ds
  | _, _ => False

/-- what a def is worth: from the content of the list that it may change (its first parameter, where it has one) and its arguments -/
structure Fn where
  box : Bool
  ar : Nat
  run : List D → List Sl → Option (Sl × List D)
def spOf (G : Ctx) (fn : Fn) : Sp := fun vs H Q _ => vs.length = fn.ar ∧ ∃ H0, TbOk H0 H ∧ Ex H0 H ∧
  if fn.box = false then ∃ as s, RArgs G H0 as vs ∧ fn.run [] as = some (s, []) ∧ ∀ v H' H0', TrF none H0 H H0' H' → RetOk G H H0' H' s v → Q v H'
  else ∃ b bv bs ws as s bs', vs = .ref b :: ws ∧ H b = some (.lst bv) ∧ H0 b = none ∧ Reps G H0 bs bv ∧ RArgs G H0 as ws ∧ fn.run bs as = some (s, bs') ∧
    ∀ v H' H0' bv', TrF (some b) H0 H H0' H' → H' b = some (.lst bv') → H0' b = none → Reps G H0' bs' bv' → RetOk G H H0' H' s v → Q v H'
/-- what a def does when it is called just here -/
structure FnAt (P : Program) (w : World) (K : PySem.W.Frag) (mg : Str → Option Value) (base : Heap) (A : Around) (f : Addr) (fd : FuncData) (ps : List Str) (sp : Sp) : Prop where
  len : ∀ vs H Q E, sp vs H Q E → vs.length = ps.length
  run : ∀ (outer : List Env) (s : Shared) (H : Hp) (args : Args) (us : List Value) (vs : List V) (Q : VK) (E : XK), Env0 P w K mg base A outer s H → BindsTo s fd args (ps.zip us) → Vals vs us → sp vs H Q E →
    codeAny (model P w) A (.call (.ref f) args) (CR (L2.CX P w) outer P w H s Q E) s
theorem FnAt.of {P : Program} {w : World} {K : PySem.W.Frag} {mg : Str → Option Value} {base : Heap} {A : Around} {k : Nat} {f : Addr} {fd : FuncData} {ps : List Str} {sp : Sp} (F : FnOk P w K mg base (L2.CX P w) k f fd ps sp) (hr : Room k A) : FnAt P w K mg base A f fd ps sp :=
  ⟨F.len, fun outer s H args us vs Q E he hb hv hs => F.run A outer s H args us vs Q E hr he hb hv hs⟩
section
variable {X : L2.Cx} {f : Addr} {fd : FuncData} {ps : List Str} {sp : Sp} {E : XK} {x : Str} {p pos : Pos} {e : Expr} {es : List Expr} {t : TA}
open PySem.Spec in
theorem run_at {pins : List (Addr × Obj)} {σ : St} {H : Hp} {s : Shared} {Q : VK} {us : List Value} {vs : List V} (F : FnAt X.prog X.w X.K X.mg X.base X.A f fd ps sp) (hb : Binds X.K fd ps []) (hx : Passes (L2.CX X.prog X.w) X E) (I : Inv X pins σ H s) (r : Vals vs us) (h : sp (vs ++ []) H Q E) :
    wpAny (model X.prog X.w) X.A (call (.ref f) us) (EP X pins σ Q) X.xe s := by
  rw [List.append_nil] at h
  have b := hb s us I.kIn (by rw [List.append_nil, ← r.length]; exact F.len _ _ _ _ h)
  rw [List.append_nil] at b
  refine wpAny_call (codeAny_mono (F.run X.stack s H ⟨us, []⟩ us vs Q E I.env0 b r h) fun o s' q => ?_)
  match o, q with
  | .error e, q => exact hx pins σ H s e s' I q
  | .ok (.ret u), q => exact I.after q
theorem pe_callAt (F : FnAt X.prog X.w X.K X.mg X.base X.A f fd ps sp) (hg : Gl X x) (hm : X.mg x = some (.ref f)) (hk : PySem.W.keepIn X.K (.ref f) = true) (hb : Binds X.K fd ps []) (hx : Passes (L2.CX X.prog X.w) X E) (ha : PA X (e :: es) t)
    (hdb : (x == ("__debug__" : Str)) = false) (he : starEach (e :: es) X.env = (false, eval e X.env) :: starEach es X.env) (hpl : (backTo pos (starEach es X.env)).any (·.1) = false) : PE X (.Call (.Name x p) (e :: es) [] pos) (tCall sp [] E t) :=
  ⟨fun pins s σ H Q I h => wpAny_Call_Name_kw (ld_glob I hg hm (PySem.W.callWith_K (h₀ := X.base) I.ok.mod.kin hk (thn (ha.run pos pins s σ H _ I h) fun us s1 ⟨vs, H1, I1, r, q⟩ => ⟨I1.kIn, run_at F hb hx I1 r q⟩) he hpl) hdb)⟩
end
structure FOk (k : Nat) (X : L2.Cx) (x : Str) (fn : Fn) : Prop where
  ex : ∃ f fd ps, X.mg x = some (.ref f) ∧ PySem.W.keepIn X.K (.ref f) = true ∧ FnAt X.prog X.w X.K X.mg X.base X.A f fd ps (spOf (Cx.G X) fn) ∧ Binds X.K fd ps []

def bltV2 (x : Str) : Option Value := if x = "str" then some (.type "str") else none
/-- built-ins by name -/
def bltV (x : Str) : Option Value :=
  if x = "len" then some (.builtin "len") else if x = "abs" then some (.builtin "abs") else if x = "divmod" then some (.builtin "divmod")
  else if x = "max" then some (.builtin "max") else if x = "min" then some (.builtin "min") else if x = "sum" then some (.builtin "sum")
  else if x = "sorted" then some (.builtin "sorted") else if x = "all" then some (.builtin "all") else if x = "any" then some (.builtin "any")
  else if x = "tuple" then some (.type "tuple") else if x = "list" then some (.type "list") else if x = "int" then some (.type "int") else bltV2 x
theorem bltV2_boot {x : Str} {v : Value} (h : bltV2 x = some v) : bootBuiltins x = some v ∧ x ≠ "__name__" ∧ ((∃ id, v = .builtin id) ∨ ∃ T, v = .type T) := by
  unfold bltV2 at h
  split at h
  · rename_i e; cases h; subst e; exact ⟨by decide +kernel, by decide, .inr ⟨_, rfl⟩⟩
  · cases h
theorem bltV_boot {x : Str} {v : Value} (h : bltV x = some v) : bootBuiltins x = some v ∧ x ≠ "__name__" ∧ ((∃ id, v = .builtin id) ∨ ∃ T, v = .type T) := by
  unfold bltV at h
  repeat' split at h
  all_goals first
    | exact bltV2_boot h
    | (rename_i e; cases h; subst e; exact ⟨by decide +kernel, by decide, by first | exact .inl ⟨_, rfl⟩ | exact .inr ⟨_, rfl⟩⟩)
/-- evaluators, by the scope and the slots -/
structure Evs where
  e : Scope → Rho → Expr → Option (Sl × Rho)
  t : Scope → Rho → Expr → Option (Bool × Rho)
/-- what is read otherwise: tuple(x) as a whole object; places of the text with an evaluator of their own -/
structure Xt where
  b : Bool
  hk : Option (Evs → Scope → Rho → Expr → Option (Sl × Rho)) := none
  on : Scope → Bool := fun _ => false
  rp : Bool := false
instance : Coe Bool Xt := ⟨fun b => { b := b }⟩
/-- what the names mean: the def's own by place, the module's constants, the module's defs -/
structure Cf where
  N : List Str
  gl : Str → Option Sl
  fns : Str → Option Fn
  tt : Xt
/-! ### readings over data -/
def tS (G : Ctx) (ev : Rho → Option (Sl × Rho)) : TE := fun σ H Q => ∃ ρ s ρ' H0, ev ρ = some (s, ρ') ∧ REnv G ρ σ H0 H ∧
  ∀ v H' H0', Tr ρ σ H0 H ρ' σ H0' H' → REnv G ρ' σ H0' H' → RSl G ρ σ H ρ' H0' H' s v → Q v H'
def tD (G : Ctx) (ev : Rho → Option (D × Rho)) : TE := fun σ H Q => ∃ ρ d ρ' H0, ev ρ = some (d, ρ') ∧ REnv G ρ σ H0 H ∧
  ∀ v H' H0', Tr ρ σ H0 H ρ' σ H0' H' → REnv G ρ' σ H0' H' → Rep G H0' d v → Q v H'
def tDs (G : Ctx) (ev : Rho → Option (List D × Rho)) : TA := fun σ H Q => ∃ ρ ds ρ' H0, ev ρ = some (ds, ρ') ∧ REnv G ρ σ H0 H ∧
  ∀ vs H' H0', Tr ρ σ H0 H ρ' σ H0' H' → REnv G ρ' σ H0' H' → Reps G H0' ds vs → Q vs H'
def tT (G : Ctx) (ev : Rho → Option (Bool × Rho)) : TT := fun σ H Q => ∃ ρ b ρ' H0, ev ρ = some (b, ρ') ∧ REnv G ρ σ H0 H ∧
  ∀ H' H0', Tr ρ σ H0 H ρ' σ H0' H' → REnv G ρ' σ H0' H' → Q b H'

theorem PE.of {X : L2.Cx} {e : Expr} {t : TE} (h : ∀ σ H Q, t σ H Q → ∃ t' : TE, PE X e t' ∧ t' σ H Q) : PE X e t := ⟨fun pins s σ H Q I q => by
  obtain ⟨t', h1, h2⟩ := h σ H Q q
  exact h1.run pins s σ H Q I h2⟩
theorem PT.of {X : L2.Cx} {e : Expr} {t : TT} (h : ∀ σ H Q, t σ H Q → ∃ t' : TT, PT X e t' ∧ t' σ H Q) : PT X e t := ⟨fun pins s σ H Q I q => by
  obtain ⟨t', h1, h2⟩ := h σ H Q q
  exact h1.run pins s σ H Q I h2⟩
theorem PA.of {X : L2.Cx} {e : List Expr} {t : TA} (h : ∀ σ H Q, t σ H Q → ∃ t' : TA, PA X e t' ∧ t' σ H Q) : PA X e t := ⟨fun pos pins s σ H Q I q => by
  obtain ⟨t', h1, h2⟩ := h σ H Q q
  exact h1.run pos pins s σ H Q I h2⟩

/-! ### the context -/
/-- what every place of a def's text has -/
structure COkB (C : Cf) (sc : Scope) (X : L2.Cx) : Prop where
  N : X.N = C.N
  nd : C.N.Nodup
  sc : X.env.scope = sc
  gl : ∀ x s, C.gl x = some s → ∃ u v, X.mg x = some u ∧ RelV v u ∧ ∀ (ρ : Rho) (σ : St) (H : Hp) (ρ' : Rho) (H0 H' : Hp), RSl (Cx.G X) ρ σ H ρ' H0 H' s v
/-- .. where no exception is handled -/
structure COk (C : Cf) (sc' : Scope) (k : Nat) (X : L2.Cx) : Prop extends COkB C sc' X where
  hk : ∀ h, C.tt.hk = some h → C.tt.on sc' = true → ∀ r : Evs, (∀ e, PE X e (tS (Cx.G X) fun ρ => r.e sc' ρ e)) → (∀ e, PT X e (tT (Cx.G X) fun ρ => r.t sc' ρ e)) → ∀ e, PE X e (tS (Cx.G X) fun ρ => h r sc' ρ e)
  rp : C.tt.rp = true → X.A.guards = some [] ∧ X.mg "repr" = none
  calm : X.calm = true
  room : Room k X.A
  fns : ∀ x fn, C.fns x = some fn → FOk k X x fn
  blt : ∀ x v, bltV x = some v → X.mg x = none
  isi : X.mg "isinstance" = none ∧ X.mg "range" = none ∧ X.mg "enumerate" = none ∧ X.mg "zip" = none ∧ X.mg "set" = none
  tys : X.mg "int" = none ∧ X.mg "bool" = none ∧ X.mg "tuple" = none ∧ X.mg "str" = none ∧ X.mg "list" = none

/-! ### frozen: an expression's value as data -/
def frz : Option (Sl × Rho) → Option (D × Rho)
  | some (.im d, ρ) => some (d, ρ)
  | some (.ow xs, ρ) => some (.list xs, ρ)
  | some (.tt xs, ρ) => some (.tuple xs, ρ)
  | _ => none
theorem tD_of {X : L2.Cx} {e : Expr} {ev : Rho → Option (Sl × Rho)} (h : PE X e (tS (Cx.G X) ev)) : PE X e (tD (Cx.G X) fun ρ => frz (ev ρ)) := PE.of fun σ H Q q => by
  refine ⟨_, h, ?_⟩
  obtain ⟨ρ, d, ρ', H0, hev, E, q⟩ := q
  dsimp only at hev
  cases hs : ev ρ with
  | none => rw [hs] at hev; cases hev
  | some r =>
    obtain ⟨s, ρ1⟩ := r
    rw [hs] at hev
    refine ⟨ρ, s, ρ1, H0, hs, E, fun v H' H0' T E' r => ?_⟩
    cases s with
    | im d' =>
      simp only [frz, Option.some.injEq, Prod.mk.injEq] at hev
      obtain ⟨rfl, rfl⟩ := hev
      exact q v H' H0' T E' r
    | ow xs =>
      simp only [frz, Option.some.injEq, Prod.mk.injEq] at hev
      obtain ⟨rfl, rfl⟩ := hev
      obtain ⟨a, vs, rfl, h1, h2, h3, h4, h5⟩ := r
      exact q _ H' _ (T.freezeA h2 h5) (E'.freezeA h1 h2 h4) (rep_lst upd_same (h3.ex (Ex.new h2)))
    | fn x => simp [frz] at hev
    | fz x => simp [frz] at hev
    | tt xs =>
      simp only [frz, Option.some.injEq, Prod.mk.injEq] at hev
      obtain ⟨rfl, rfl⟩ := hev
      obtain ⟨a, rfl, h1⟩ := r
      exact q _ H' H0' T E' h1.rep
theorem tS_im {X : L2.Cx} {e : Expr} {ev : Rho → Option (D × Rho)} (h : PE X e (tD (Cx.G X) ev)) : PE X e (tS (Cx.G X) fun ρ => (ev ρ).map fun p => (.im p.1, p.2)) := PE.of fun σ H Q q => by
  refine ⟨_, h, ?_⟩
  obtain ⟨ρ, s, ρ', H0, hev, E, q⟩ := q
  dsimp only at hev
  cases hs : ev ρ with
  | none => rw [hs] at hev; cases hev
  | some r =>
    obtain ⟨d, ρ1⟩ := r
    rw [hs] at hev
    simp only [Option.map_some, Option.some.injEq, Prod.mk.injEq] at hev
    obtain ⟨rfl, rfl⟩ := hev
    exact ⟨ρ, d, ρ1, H0, hs, E, fun v H' H0' T E' r => q v H' H0' T E' r⟩

/-! ### lists of expressions -/
def notStar : Expr → Bool
  | .Starred .. => false
  | _ => true
theorem star_of {e : Expr} {es : List Expr} {env : Env} (h : notStar e = true) : starEach (e :: es) env = (false, eval e env) :: starEach es env := by
  cases e <;> first | rfl | (simp [notStar] at h)
theorem star_plain {env : Env} {pos : Pos} : ∀ {es : List Expr}, es.all notStar = true → (backTo pos (starEach es env)).any (·.1) = false
  | [], _ => by rfl
  | e :: es, h => by
    simp only [List.all_cons, Bool.and_eq_true] at h
    rw [star_of h.1]
    show (false || (backTo pos (starEach es env)).any (·.1)) = false
    rw [star_plain h.2]; rfl

def evDs (ev : Rho → Expr → Option (D × Rho)) : List Expr → Rho → Option (List D × Rho)
  | [], ρ => some ([], ρ)
  | e :: es, ρ => if notStar e then
      match ev ρ e with
      | some (d, ρ1) => match evDs ev es ρ1 with
        | some (ds, ρ2) => some (d :: ds, ρ2)
        | none => none
      | none => none
    else none
theorem pa_of {X : L2.Cx} {ev : Rho → Expr → Option (D × Rho)} (h : ∀ e, PE X e (tD (Cx.G X) fun ρ => ev ρ e)) : ∀ es, PA X es (tDs (Cx.G X) (evDs ev es))
  | [] => PA.of fun σ H Q q => by
    obtain ⟨ρ, ds, ρ', H0, hev, E, q⟩ := q
    simp only [evDs, Option.some.injEq, Prod.mk.injEq] at hev
    obtain ⟨rfl, rfl⟩ := hev
    exact ⟨_, pa_nil, q [] H H0 (Tr.refl _ _ _ _) E Reps.nil⟩
  | e :: es => PA.of fun σ H Q q => by
    obtain ⟨ρ, ds, ρ', H0, hev, E, q⟩ := q
    simp only [evDs] at hev
    split at hev
    · rename_i hn
      split at hev
      · rename_i d ρ1 h1
        split at hev
        · rename_i ds' ρ2 h2
          simp only [Option.some.injEq, Prod.mk.injEq] at hev
          obtain ⟨rfl, rfl⟩ := hev
          refine ⟨_, pa_cons (h e) (pa_of h es) (star_of hn), ?_⟩
          refine ⟨ρ, d, ρ1, H0, h1, E, fun v H1 H01 T1 E1 r1 => ?_⟩
          refine ⟨ρ1, ds', ρ2, H01, h2, E1, fun vs H2 H02 T2 E2 r2 => ?_⟩
          exact q (v :: vs) H2 H02 (T1.trans T2) E2 (Reps.cons (r1.ex T2.ex) r2)
        · cases hev
      · cases hev
    · cases hev

/-! ### names and constants -/
def idx (x : Str) : List Str → Option Nat
  | [] => none
  | y :: ys => if y = x then some 0 else (idx x ys).map (· + 1)
theorem idx_get {x : Str} : ∀ {N : List Str} {i : Nat}, idx x N = some i → N[i]? = some x
  | [], _, h => by cases h
  | y :: ys, i, h => by
    unfold idx at h
    split at h
    · rename_i e
      cases h
      simp [e]
    · cases q : idx x ys with
      | none => rw [q] at h; cases h
      | some j =>
        rw [q] at h
        simp only [Option.map_some, Option.some.injEq] at h
        subst h
        simpa using idx_get q
def plainName (x : Str) : Bool := !(x == ("__debug__" : Str)) && !(x == ("__classdict__" : Str))
def visB (sc : Scope) (x : Str) : Bool := match sc.names.lookup x with
  | some .local => true | some .cell => true | some .free => true | _ => false
theorem vis_of {sc : Scope} {x : Str} (h : visB sc x = true) : Vis sc x := by
  unfold visB at h
  split at h
  · exact .inl (by assumption)
  · exact .inr (.inl (by assumption))
  · exact .inr (.inr (by assumption))
  · cases h
def globB (sc : Scope) (x : Str) : Bool := decide (sc.names.lookup x = some .globalImplicit)
def slotE (C : Cf) (sc : Scope) (x : Str) : Option Nat := if visB sc x && plainName x then idx x C.N else none
def nameE (C : Cf) (sc : Scope) (x : Str) (ρ : Rho) : Option (Sl × Rho) :=
  match slotE C sc x with
  | some i => match ρ[i]? with
    | some (some (.ow xs)) => some (.im (.list xs), ρ.set i (some (.im (.list xs))))
    | some (some s) => some (s, ρ)
    | _ => none
  | none => if globB sc x && plainName x then (C.gl x).map fun s => (s, ρ) else none
section
variable {C : Cf} {sc : Scope} {k : Nat} {X : L2.Cx} {pos : Pos}
theorem slot_pe (K : COkB C sc X) {x : Str} {i : Nat} (h : slotE C sc x = some i) : PE X (.Name x pos) (tVar i) := by
  unfold slotE at h
  split at h
  · rename_i hb
    simp only [Bool.and_eq_true, plainName, Bool.not_eq_true'] at hb
    exact pe_var (by rw [K.N]; exact idx_get h) (by rw [K.sc]; exact vis_of hb.1) hb.2.1 hb.2.2
  · cases h
theorem gl_of (K : COkB C sc X) {x : Str} (h : globB sc x = true) : Gl X x := by
  unfold Gl Env.kindOf
  rw [K.sc]
  exact of_decide_eq_true h
theorem pe_name (K : COkB C sc X) (x : Str) : PE X (.Name x pos) (tS (Cx.G X) (nameE C sc x)) := PE.of fun σ H Q q => by
  obtain ⟨ρ, s, ρ', H0, hev, E, q⟩ := q
  unfold nameE at hev
  split at hev
  · rename_i i hi
    refine ⟨_, slot_pe K hi, ?_⟩
    split at hev
    · rename_i xs hx
      simp only [Option.some.injEq, Prod.mk.injEq] at hev
      obtain ⟨rfl, rfl⟩ := hev
      obtain ⟨a, vs, h1, h2, h3, E', T, r⟩ := E.freezeS hx
      exact ⟨_, h1, q _ H _ T E' r⟩
    · rename_i s' hn hx
      simp only [Option.some.injEq, Prod.mk.injEq] at hev
      obtain ⟨rfl, rfl⟩ := hev
      cases s' with
      | im d =>
        obtain ⟨v, h1, h2⟩ := E.im i d hx
        exact ⟨v, h1, q v H H0 (Tr.refl _ _ _ _) E h2⟩
      | fn f =>
        obtain ⟨a, h1, h2⟩ := E.fn i f hx
        exact ⟨_, h1, q _ H H0 (Tr.refl _ _ _ _) E ⟨a, rfl, h2⟩⟩
      | fz ns =>
        obtain ⟨a, h1, h2⟩ := E.fz i ns hx
        exact ⟨_, h1, q _ H H0 (Tr.refl _ _ _ _) E ⟨a, rfl, h2⟩⟩
      | tt ns =>
        obtain ⟨a, h1, h2⟩ := E.tt i ns hx
        exact ⟨_, h1, q _ H H0 (Tr.refl _ _ _ _) E ⟨a, rfl, h2⟩⟩
      | ow xs => exact absurd rfl (hn xs)
    · cases hev
  · split at hev
    · rename_i hb
      simp only [Bool.and_eq_true, plainName, Bool.not_eq_true'] at hb
      cases hg : C.gl x with
      | none => rw [hg] at hev; cases hev
      | some s' =>
        rw [hg] at hev
        simp only [Option.map_some, Option.some.injEq, Prod.mk.injEq] at hev
        obtain ⟨rfl, rfl⟩ := hev
        obtain ⟨u, v, h1, h2, h3⟩ := K.gl x _ hg
        exact ⟨_, pe_glob (gl_of K hb.1) h1 h2 hb.2.1, q v H H0 (Tr.refl _ _ _ _) E (h3 _ _ _ _ _ _)⟩
    · cases hev
def constE : Const → Option D
  | .none => some .none
  | .bool b => some (.bool b)
  | .int i => some (.int i)
  | .str x => some (.str x)
  | _ => none
theorem pe_constD (c : Const) (j : Nat) : PE X (.Constant c j pos) (tD (Cx.G X) fun ρ => (constE c).map fun d => (d, ρ)) := PE.of fun σ H Q q => by
  obtain ⟨ρ, d, ρ', H0, hev, E, q⟩ := q
  dsimp only at hev
  cases c with
  | none =>
    simp only [constE, Option.map_some, Option.some.injEq, Prod.mk.injEq] at hev
    obtain ⟨rfl, rfl⟩ := hev
    exact ⟨_, pe_non, q _ H H0 (Tr.refl _ _ _ _) E rep_non⟩
  | bool b =>
    simp only [constE, Option.map_some, Option.some.injEq, Prod.mk.injEq] at hev
    obtain ⟨rfl, rfl⟩ := hev
    exact ⟨_, pe_bl, q _ H H0 (Tr.refl _ _ _ _) E (rep_bl b)⟩
  | int b =>
    simp only [constE, Option.map_some, Option.some.injEq, Prod.mk.injEq] at hev
    obtain ⟨rfl, rfl⟩ := hev
    exact ⟨_, pe_int, q _ H H0 (Tr.refl _ _ _ _) E (rep_int b)⟩
  | str b =>
    simp only [constE, Option.map_some, Option.some.injEq, Prod.mk.injEq] at hev
    obtain ⟨rfl, rfl⟩ := hev
    exact ⟨_, pe_str, q _ H H0 (Tr.refl _ _ _ _) E (rep_str b)⟩
  | _ => simp [constE] at hev

/-! ### displays -/
def tupE (ev : Rho → Option (List D × Rho)) (ρ : Rho) : Option (D × Rho) := match ev ρ with
  | some (ds, ρ') => if ds.length ≤ 100000 then some (.tuple ds, ρ') else none
  | none => none
def lstE (ev : Rho → Option (List D × Rho)) (ρ : Rho) : Option (Sl × Rho) := match ev ρ with
  | some (ds, ρ') => if ds.length ≤ 100000 then some (.ow ds, ρ') else none
  | none => none
theorem pe_tupD {es : List Expr} {j : Nat} {ev : Rho → Option (List D × Rho)} (h : PA X es (tDs (Cx.G X) ev)) : PE X (.Tuple es j pos) (tD (Cx.G X) (tupE ev)) := PE.of fun σ H Q q => by
  refine ⟨_, pe_tupN h, ?_⟩
  obtain ⟨ρ, d, ρ', H0, hev, E, q⟩ := q
  unfold tupE at hev
  split at hev
  · rename_i ds ρ1 h1
    split at hev
    · rename_i hl
      simp only [Option.some.injEq, Prod.mk.injEq] at hev
      obtain ⟨rfl, rfl⟩ := hev
      refine ⟨ρ, ds, ρ1, H0, h1, E, fun vs H1 H01 T1 E1 r1 => ⟨?_, fun p o hp ho => ?_⟩⟩
      · rw [← r1.length]; exact Nat.le_trans hl (by decide)
      · exact q _ _ _ (T1.trans (Tr.newI hp (E1.ex.back hp))) (E1.newI hp) (rep_tupO (.new ho) (r1.ex (Ex.new (E1.ex.back hp))))
    · cases hev
  · cases hev
theorem pe_lstD {es : List Expr} {ev : Rho → Option (List D × Rho)} (h : PA X es (tDs (Cx.G X) ev)) : PE X (.List es pos) (tS (Cx.G X) (lstE ev)) := PE.of fun σ H Q q => by
  refine ⟨_, pe_lst h, ?_⟩
  obtain ⟨ρ, d, ρ', H0, hev, E, q⟩ := q
  unfold lstE at hev
  split at hev
  · rename_i ds ρ1 h1
    split at hev
    · rename_i hl
      simp only [Option.some.injEq, Prod.mk.injEq] at hev
      obtain ⟨rfl, rfl⟩ := hev
      refine ⟨ρ, ds, ρ1, H0, h1, E, fun vs H1 H01 T1 E1 r1 => ⟨?_, fun p hp => ?_⟩⟩
      · rw [← r1.length]; exact Nat.le_trans hl (by decide)
      · have n := RSl.newO E1 hp r1
        obtain ⟨a, ws, e1, h1, h2, h3, h4, h5⟩ := n
        refine q _ _ _ (T1.trans (Tr.newO hp)) (E1.newO hp) ⟨a, ws, e1, h1, h2, h3, h4, ?_⟩
        rcases h5 with z | z
        · exact T1.nw a z
        · exact .inr (T1.kp a z)
    · cases hev
  · cases hev
end
end Dv

set_option Elab.async false
set_option linter.all false
set_option maxRecDepth 100000
set_option maxHeartbeats 1000000
namespace Dv
open PySem PySem.Spec PySem.SeqAt
open AutoSeq1 (wpAny_loadPart')
/-! x < y of data of which only the places up to the first that differs can be compared -/
mutual
def ltD : PyData → PyData → Option Bool
  | .int i, .int j => some (decide (i < j))
  | .str x, .str y => some (decide (x.cps.toList < y.cps.toList))
  | .tuple xs, .tuple ys => ltDs xs ys
  | _, _ => none
def ltDs : List PyData → List PyData → Option Bool
  | [], [] => some false
  | [], _ :: _ => some true
  | _ :: _, [] => some false
  | x :: xs, y :: ys => cond (PyData.eqv x y) (ltDs xs ys) (ltD x y)
end
/-- what < of two rows of values gives, by the first that differ -/
inductive Less (A : Around) (s : Shared) : List Value → List Value → Bool → Prop
  | both : Less A s [] [] false
  | more (y : Value) (ys : List Value) : Less A s [] (y :: ys) true
  | less (x : Value) (xs : List Value) : Less A s (x :: xs) [] false
  | same {x y : Value} {xs ys : List Value} {k : Bool} : EqAt A s x y true → Less A s xs ys k → Less A s (x :: xs) (y :: ys) k
  | diff {x y : Value} {xs ys : List Value} {k : Bool} : EqAt A s x y false → RcLt A s x y k → Less A s (x :: xs) (y :: ys) k
section
theorem tup_less (l b : Addr) (us vs : Array Value) (n m : Nat) (d1 d2 : Option Addr) (s1 s2 : Array (Option Value)) (k : Bool) :
    Meets (Builtin.«tuple.__lt__» ⟨[.ref l, .ref b], []⟩) (fun A R s => s.heap.get? l = some { cls := .type "tuple", dict := d1, data := .seq us n, slots := s1 } ∧ s.heap.get? b = some { cls := .type "tuple", dict := d2, data := .seq vs m, slots := s2 } ∧
      Less A.in1 s us.toList vs.toList k ∧ R (.ok (.ret (.bool k))) s) := .of_wp fun prog w A R s h => by
  obtain ⟨hp, g, dr, tk, os⟩ := s
  obtain ⟨hl, hb, hk, hR⟩ := h
  have sub := AutoSeq1.sub_tuple_tuple
  wp_walk using wpAny_loadPart' hl, wpAny_loadPart' hb, wpAny_forIn_list _ (fun rest q s' => q.1 = none ∧ s' = ⟨hp, g, dr, tk, os⟩ ∧
    ∃ xs ys, rest = xs.zip ys ∧ xs.length + vs.size = ys.length + us.size ∧ Less A.in1 ⟨hp, g, dr, tk, os⟩ xs ys k) _
  case turn =>
    rintro ⟨y, x⟩ rest q s' ⟨hq, rfl, xs, ys, hz, hn, hk'⟩
    cases xs with
    | nil => cases hz
    | cons x' xs =>
      cases ys with
      | nil => cases hz
      | cons y' ys =>
        rw [List.zip_cons_cons] at hz
        injection hz with hz1 hz2
        injection hz1 with e1 e2
        subst e1 e2 hz2
        cases hk' with
        | same h1 h2 =>
          refine wpAny_bind (h1 prog w _ _ ?_)
          wp_walk
          exact ⟨rfl, rfl, xs, ys, rfl, by simp at hn; omega, h2⟩
        | diff h1 h2 =>
          refine wpAny_bind (h1 prog w _ _ ?_)
          show wpAny _ _ (rule "tuple.compare.by-the-first-pair-that-differs" >>= fun _ => richCompare CmpOp.Lt y x >>= fun r => ret r >>= fun r2 => pure (ForInStep.done (some r2, ()))) _ _ _
          refine wpAny_bind (wpAny_rule ?_)
          refine wpAny_bind (h2 prog w _ _ ?_)
          wp_walk
          exact ⟨_, rfl, hR⟩
  case fin =>
    rintro ⟨q1, q2⟩ s' ⟨hq, rfl, xs, ys, hz, hn, hk'⟩
    simp only at hq
    subst hq
    have fin : k = decide (us.size < vs.size) := by
      cases hk' with
      | both => simp at hn ⊢; omega
      | more y ys => simp at hn ⊢; omega
      | less x xs => simp at hn ⊢; omega
      | same _ _ => cases hz
      | diff _ _ => cases hz
    wp_walk
    exact ⟨_, rfl, by rw [fin] at hR; simpa [Builtin.Tuple.tupleCompareSizes] using hR⟩
  exact ⟨rfl, rfl, us.toList, vs.toList, rfl, by simp; omega, hk⟩
end
theorem rc_tups {A : Around} {s : Shared} {l b : Addr} {us vs : Array Value} {k : Bool} (hl : s.heap.IsTuple l us) (hb : s.heap.IsTuple b vs) (hu : A.units < cLine) (hk : Less A.in1 s us.toList vs.toList k) : RcLt A s (.ref l) (.ref b) k := fun prog w E Q h => by
  obtain ⟨⟨c1, d1, t1, s1⟩, h1, e1, n1, f1⟩ := id hl
  obtain ⟨⟨c2, d2, t2, s2⟩, h2, e2, n2, f2⟩ := id hb
  simp only at e1 f1 e2 f2
  subst e1 f1 e2 f2
  exact richCompare_meets_room (op := .Lt) ⟨_, h1, rfl⟩ ⟨_, h2, rfl⟩ F.slot_tuple_lt F.entry_tuple_lt (F.args_tuple_lt_2 _ _) (tup_less l b us vs n1 n2 d1 d2 s1 s2 k) ⟨h1, h2, hk, ⟨fun z => (nomatch z), h⟩⟩ hu
end Dv
namespace Dv
open PySem PySem.Spec PySem.SeqAt
mutual
theorem rc_ltD : ∀ (d e : PyData) (A : Around) (s : Shared) (u v : Value) (as bs : List Addr) (k : Bool), ltD d e = some k → d.canLay0 = true → e.canLay0 = true → Reads s.heap u d as → Reads s.heap v e bs → A.units + d.depth + 1 < cLine → RcLt A s u v k
  | .int i, e, A, s, u, v, as, bs, k, h, _, _, r1, r2, _ => by
    cases e with
    | int j =>
      cases r1
      cases r2
      simp only [ltD, Option.some.injEq] at h
      subst h
      intro prog w E Q hq
      exact P.lt_int hq
    | _ => simp [ltD] at h
  | .str x, e, A, s, u, v, as, bs, k, h, _, _, r1, r2, _ => by
    cases e with
    | str y =>
      cases r1
      cases r2
      simp only [ltD, Option.some.injEq] at h
      subst h
      intro prog w E Q hq
      exact P.lt_str hq
    | _ => simp [ltD] at h
  | .tuple xs, e, A, s, u, v, as, bs, k, h, c1, c2, r1, r2, hu => by
    cases e with
    | tuple ys =>
      simp only [ltD] at h
      cases r1 with
      | @tuple l o us n _ as₁ h1 h2 h3 h4 =>
        cases r2 with
        | @tuple l' o' vs n' _ bs₁ k1 k2 k3 k4 =>
          refine rc_tups ⟨_, h1, h2, _, h3⟩ ⟨_, k1, k2, _, k3⟩ (by omega) ?_
          exact rc_ltDs xs ys A.in1 s us.toList vs.toList _ _ k h (by simpa [PyData.canLay0] using c1) (by simpa [PyData.canLay0] using c2) h4 k4 (by simp only [PyData.depth] at hu; show A.units + 1 + _ + 1 < _; omega)
    | _ => simp [ltD] at h
  | .none, _, _, _, _, _, _, _, _, h, _, _, _, _, _ => by simp [ltD] at h
  | .bool _, _, _, _, _, _, _, _, _, h, _, _, _, _, _ => by simp [ltD] at h
  | .list _, _, _, _, _, _, _, _, _, h, _, _, _, _, _ => by simp [ltD] at h
  | .dict _, _, _, _, _, _, _, _, _, h, _, _, _, _, _ => by simp [ltD] at h
theorem rc_ltDs : ∀ (xs ys : List PyData) (A : Around) (s : Shared) (us vs : List Value) (as bs : List Addr) (k : Bool), ltDs xs ys = some k → PyData.canLayAll0 xs = true → PyData.canLayAll0 ys = true → ReadsAll s.heap us xs as → ReadsAll s.heap vs ys bs → A.units + PyData.depthAll xs + 1 < cLine → Less A s us vs k
  | [], [], A, s, us, vs, as, bs, k, h, _, _, r1, r2, _ => by
    cases r1
    cases r2
    simp only [ltDs, Option.some.injEq] at h
    subst h
    exact .both
  | [], y :: ys, A, s, us, vs, as, bs, k, h, _, _, r1, r2, _ => by
    cases r1
    cases r2
    simp only [ltDs, Option.some.injEq] at h
    subst h
    exact .more _ _
  | x :: xs, [], A, s, us, vs, as, bs, k, h, _, _, r1, r2, _ => by
    cases r1
    cases r2
    simp only [ltDs, Option.some.injEq] at h
    subst h
    exact .less _ _
  | x :: xs, y :: ys, A, s, us, vs, as, bs, k, h, c1, c2, r1, r2, hu => by
    simp only [PyData.canLayAll0, Bool.and_eq_true] at c1 c2
    simp only [PyData.depthAll] at hu
    cases r1 with
    | cons a1 a2 =>
      cases r2 with
      | cons b1 b2 =>
        have he := eqAt_reads x y A s _ _ _ _ a1 b1 c1.1 c2.1 (by have := Nat.min_le_left x.depth y.depth; omega)
        simp only [ltDs] at h
        cases hq : PyData.eqv x y with
        | true =>
          rw [hq] at h he
          exact .same he (rc_ltDs xs ys A s _ _ _ _ k h c1.2 c2.2 a2 b2 (by omega))
        | false =>
          rw [hq] at h he
          exact .diff he (rc_ltD x y A s _ _ _ _ k h c1.1 c2.1 a1 b1 (by omega))
end
end Dv

namespace Dv
open PySem PySem.Spec PySem.SeqAt L2
def low (d : PyData) : Bool := shaped d && decide (d.depth ≤ 60)
section
variable {X : L2.Cx}
theorem op_ltD (hu : X.A.units + 64 < cLine) : OpR X (compareOp .Lt) (fun x y H Q => ∃ d e k, Dp X.K H x d ∧ Dp X.K H y e ∧ ltD d e = some k ∧ low d = true ∧ low e = true ∧ Q (.bl k) H) := by
  intro pins s σ H x y v u Q I rx ry h
  obtain ⟨d, e, k, hd, he, hk, l1, l2, q⟩ := h
  obtain ⟨as, r1⟩ := Dp.reads I d x v hd rx
  obtain ⟨bs, r2⟩ := Dp.reads I e y u he ry
  unfold low at l1 l2
  simp only [Bool.and_eq_true, decide_eq_true_eq] at l1 l2
  exact rc_ltD d e X.A s v u as bs k hk (canLay_of_shaped l1.1) (canLay_of_shaped l2.1) r1 r2 (by omega) X.prog X.w _ _ ⟨.bl k, H, I, rfl, q⟩
def rInT (neg : Bool) (K : PySem.W.Frag) : R2 := fun x y H Q => ∃ d e ds, Dp K H x d ∧ Dp K H y e ∧ (e = .list ds ∨ e = .tuple ds) ∧ low d = true ∧ shaped e = true ∧ Q (.bl (if neg then !ds.any fun z => PyData.eqv z d else ds.any fun z => PyData.eqv z d)) H
theorem op_inT (hu : X.A.units + 64 < cLine) : OpR X (compareOp .In) (rInT false X.K) := by
  intro pins s σ H x y v u Q I rx ry h
  obtain ⟨d, e, ds, hd, he, hc, l1, l2, q⟩ := h
  obtain ⟨as, r1⟩ := Dp.reads I d x v hd rx
  obtain ⟨bs, r2⟩ := Dp.reads I e y u he ry
  unfold low at l1
  simp only [Bool.and_eq_true, decide_eq_true_eq] at l1
  have hr : X.A.units + 1 + min (PyData.depthAll ds) d.depth < cLine := by have := Nat.min_le_right (PyData.depthAll ds) d.depth; omega
  rcases hc with rfl | rfl
  · exact in_list_reads r2 r1 (by simpa [PyData.canLay0] using canLay_of_shaped l2) (canLay_of_shaped l1.1) hr ⟨.bl _, H, I, rfl, q⟩
  · exact in_tuple_reads r2 r1 (by simpa [PyData.canLay0] using canLay_of_shaped l2) (canLay_of_shaped l1.1) hr ⟨.bl _, H, I, rfl, q⟩
theorem op_notInT (hu : X.A.units + 64 < cLine) : OpR X (compareOp .NotIn) (rInT true X.K) := by
  intro pins s σ H x y v u Q I rx ry h
  obtain ⟨d, e, ds, hd, he, hc, l1, l2, q⟩ := h
  obtain ⟨as, r1⟩ := Dp.reads I d x v hd rx
  obtain ⟨bs, r2⟩ := Dp.reads I e y u he ry
  unfold low at l1
  simp only [Bool.and_eq_true, decide_eq_true_eq] at l1
  have hr : X.A.units + 1 + min (PyData.depthAll ds) d.depth < cLine := by have := Nat.min_le_right (PyData.depthAll ds) d.depth; omega
  rcases hc with rfl | rfl
  · exact notIn_list_reads r2 r1 (by simpa [PyData.canLay0] using canLay_of_shaped l2) (canLay_of_shaped l1.1) hr ⟨.bl _, H, I, rfl, q⟩
  · exact notIn_tuple_reads r2 r1 (by simpa [PyData.canLay0] using canLay_of_shaped l2) (canLay_of_shaped l1.1) hr ⟨.bl _, H, I, rfl, q⟩
end
end Dv

set_option Elab.async false
set_option linter.all false
set_option maxRecDepth 100000
set_option maxHeartbeats 1000000
/-! x == "text", x a dict, a tuple or a list: no -/
namespace DvS
open PySem PySem.SeqAt PySem.MeetsSeq AutoSeq1
theorem str_not_dict (b : Str) (u : Tok) (l : Addr) (es : Array DictEntry) (n : Nat) (dd : Option Addr) (sl : Array (Option Value)) :
    Meets (Builtin.«str.__eq__» ⟨[.str b u, .ref l], []⟩) (fun _ R s => s.heap.get? l = some { cls := .type "dict", dict := dd, data := .dict es n, slots := sl } ∧ R (.ok (.ret .notImplemented)) s) :=
  .of_wp fun prog w A R s h => by
    obtain ⟨hp, g, d, tk, os⟩ := s
    obtain ⟨hl, h⟩ := h
    wp_walk using wpAny_loadPart' hl, wpAny_load hl
    exact ⟨_, rfl, h⟩
section
variable {A : Around} {s : Shared} {prog : Program} {w : World} {E : Value → Shared → Prop}
theorem dict_not_str {l : Addr} {o : Obj} (ho : s.heap.get? l = some o) (hc : o.cls = .type "dict") {es : Array DictEntry} {n : Nat} (hd : o.data = .dict es n) (b : Str) (u : Tok) (Q : Value → Shared → Prop) (q : Q .notImplemented s) :
    wpAny (model prog w) A (call (.builtin "dict.__eq__") [.ref l, .str b u]) Q E s := by
  have ty : s.TypeIs (.ref l) "dict" := ⟨o, ho, hc⟩
  refine wpAny_call_entry PySem.F.slot_dict_eq ty PySem.F.entry_dict_eq ?_ (PySem.F.args_dict_eq_2 _ _)
  show wpAny _ _ (Builtin.Dict.dictSlotArgs "__eq__" ⟨[.ref l, .str b u], []⟩ >>= _) _ _ s
  refine wpAny_bind ?_
  unfold Builtin.Dict.dictSlotArgs
  refine wpAny_bind (wpAny_notOrdered_dict ty (wpAny_pure ?_))
  refine wpAny_bind (wpAny_isInstance (T := "str") (typeIs_str s b u) PySem.F.sub_str_dict ?_)
  simp only [Bool.not_false, if_true]
  first
    | exact wpAny_bind (wpAny_rule (wpAny_pure ⟨_, rfl, q⟩))
    | exact wpAny_bind (show wpAny _ _ (rule _) _ _ s from wpAny_pure (wpAny_pure ⟨_, rfl, q⟩))
    | exact wpAny_pure ⟨_, rfl, q⟩
theorem rc_dict_str {l : Addr} {o : Obj} (ho : s.heap.get? l = some o) (hc : o.cls = .type "dict") {es : Array DictEntry} {n : Nat} (hd : o.data = .dict es n) (b : Str) (u : Tok) (hu : A.units < cLine) : RcAt A s (.ref l) (.str b u) false := fun prog w E Q h => by
  obtain ⟨cls, dd, data, sl⟩ := o
  simp only at hc hd
  subst hc hd
  exact rc_eq_decline_or (k := false) ⟨_, ho, rfl⟩ (typeIs_str s b u) (by decide) PySem.F.sub_str_dict PySem.F.slot_dict_eq PySem.F.slot_str_eq_refl
    (fun Q' hq => dict_not_str ho rfl rfl b u Q' hq)
    (fun _ hq => call_meets PySem.F.slot_str_eq_refl (typeIs_str s b u) PySem.F.entry_str_eq (PySem.F.args_str_eq_2 _ _) (str_not_dict b u l _ n dd sl) ⟨ho, hq⟩)
    (fun _ hq => wpAny_of_eq (rfl : isSame (.ref l) (.str b u) = pure false) hq) (.inr hu) h
end
end DvS
namespace Dv
open PySem PySem.Spec L2
variable [TabC]
/-- such a thing is no text -/
def strNe : D → D → Bool
  | .dict [], .str _ => true
  | .dict [(.int _, .int _)], .str _ => true
  | .tuple _, .str _ => true
  | .list _, .str _ => true
  | _, _ => false
/-- x == "text" -/
def rEqS (K : PySem.W.Frag) : R2 := fun x y H Q => ∃ a t, x = .ref a ∧ y = .str t ∧ ((∃ kvs, H a = some (.dK kvs)) ∨ (∃ vs, SqL K H a vs) ∨ ∃ vs, SqT K H a vs) ∧ Q (.bl false) H
theorem op_eqS {X : L2.Cx} (hu : X.A.units + 64 < cLine) : OpR X (compareOp .Eq) (rEqS X.K) := by
  intro pins s σ H x y v u Q I rx ry h
  obtain ⟨a, t, rfl, rfl, hc, q⟩ := h
  have rx : v = .ref a := rx
  subst rx
  obtain ⟨tk, rfl⟩ : ∃ tk, u = .str t tk := ry
  have hu' : X.A.units < cLine := by omega
  have fin : SeqAt.RcAt X.A s (.ref a) (.str t tk) false → wpAny (model X.prog X.w) X.A (compareOp .Eq (.ref a) (.str t tk)) (EP X pins σ Q) X.xe s := fun h => h X.prog X.w _ _ ⟨.bl false, H, I, rfl, q⟩
  rcases hc with ⟨kvs, hk⟩ | ⟨vs, hk⟩ | ⟨vs, hk⟩
  · obtain ⟨_, _, ws, _, o, es, ep, ho, hx, hd, _⟩ := dk_of I.hok hk
    exact fin (DvS.rc_dict_str ho hx.1 hd t tk hu')
  · obtain ⟨its, rv, pl, _⟩ := I.list hk
    exact fin (SeqAt.RcAt.list_str t tk pl.isList hu')
  · obtain ⟨its, rv, pl, _⟩ := I.tuple hk
    exact fin (SeqAt.RcAt.tuple_str t tk pl hu')
end Dv

set_option Elab.async false
set_option linter.all false
set_option maxRecDepth 100000
set_option maxHeartbeats 4000000
namespace Dv
open PySem L2
variable [TabC]

theorem RSl.via {G : Ctx} {ρ ρ1 ρ2 : Rho} {σ : St} {H0 H H01 H1 H02 H2 : Hp} {s : Sl} {v : V} (T : Tr ρ σ H0 H ρ1 σ H01 H1) (r : RSl G ρ1 σ H1 ρ2 H02 H2 s v) : RSl G ρ σ H ρ2 H02 H2 s v := by
  cases s with
  | im d => exact r
  | fn x => exact r
  | fz x => exact r
  | tt x => exact r
  | ow xs =>
    obtain ⟨a, ws, e1, h1, h2, h3, h4, h5⟩ := r
    refine ⟨a, ws, e1, h1, h2, h3, ?_, ?_⟩
    · exact h4
    · rcases h5 with z | z
      · exact T.nw a z
      · exact .inr (T.kp a z)

theorem rsl_im {G : Ctx} {ρ ρ' : Rho} {σ : St} {H H0' H' : Hp} {d : D} {v : V} (h : Rep G H0' d v) : RSl G ρ σ H ρ' H0' H' (.im d) v := h
/-- an operation on values whose outcome is known -/
def OpD (X : L2.Cx) (f : Value → Value → Sem Value) (d1 d2 : D) (s : Sl) : Prop := ∃ r : R2, OpR X f r ∧ ∀ (ρ : Rho) (σ : St) (H0 H : Hp) (x y : V) (Q : VK), REnv (Cx.G X) ρ σ H0 H → Rep (Cx.G X) H0 d1 x → Rep (Cx.G X) H0 d2 y →
  (∀ v H' H0', Tr ρ σ H0 H ρ σ H0' H' → REnv (Cx.G X) ρ σ H0' H' → RSl (Cx.G X) ρ σ H ρ H0' H' s v → Q v H') → r x y H Q

def sline : Nat := 1000000
theorem sline_le {n : Nat} (h : n ≤ sline) : n ≤ sizeLine := Nat.le_trans h (by decide)
theorem sline_lt {n : Nat} (h : n ≤ sline) : n < sizeLine := Nat.lt_of_le_of_lt h (by decide)
def cmul (i j : Int) : Bool := (decide (-(2 ^ 64) < i) && decide (i < 2 ^ 64)) || (decide (-(2 ^ 64) < j) && decide (j < 2 ^ 64))
def binD : Operator → D → D → Option Sl
  | .Add, .int i, .int j => some (.im (.int (i + j)))
  | .Sub, .int i, .int j => some (.im (.int (i - j)))
  | .Mult, .int i, .int j => if cmul i j then some (.im (.int (i * j))) else none
  | .FloorDiv, .int i, .int j => if 0 < j ∧ j < 1073741824 then some (.im (.int (i / j))) else none
  | .Mod, .int i, .int j => if 0 < j then some (.im (.int (i % j))) else none
  | .Add, .str x, .str y => if x.length + y.length ≤ sline then some (.im (.str (x ++ y))) else none
  | .Add, .tuple xs, .tuple ys => if xs.length + ys.length ≤ sline then some (.im (.tuple (xs ++ ys))) else none
  | .Add, .list xs, .list ys => if xs.length + ys.length ≤ sline then some (.ow (xs ++ ys)) else none
  | .Mult, .tuple xs, .int k => if (xs.isEmpty || decide (k = 1)) && decide (-1000 ≤ k ∧ k ≤ 1000) then some (.im (.tuple xs)) else if 2 ≤ k ∧ k ≤ 1000 ∧ xs.length ≤ 1000 then some (.im (.tuple (List.replicate k.toNat xs).flatten)) else if -1000 ≤ k ∧ k ≤ 0 then some (.im (.tuple [])) else none
  | .Mult, .list xs, .int k => if 0 ≤ k ∧ k ≤ 1000 ∧ xs.length ≤ 1000 then some (.ow (List.replicate k.toNat xs).flatten) else none
  | _, _, _ => none
section
variable {X : L2.Cx}
theorem opD_int {f : Value → Value → Sem Value} {i j : Int} {g : Int → Int → Int} (h : OpR X f (rI0 fun i j => .int (g i j))) : OpD X f (.int i) (.int j) (.im (.int (g i j))) :=
  ⟨_, h, fun ρ σ H0 H x y Q E r1 r2 q => ⟨i, j, r1.int, r2.int, q _ H H0 (Tr.refl _ _ _ _) E (rsl_im (rep_int _))⟩⟩
theorem opD_intC {f : Value → Value → Sem Value} {i j : Int} {C : Int → Int → Prop} {g : Int → Int → Int} (h : OpR X f (rI C fun i j => .int (g i j))) (hc : C i j) : OpD X f (.int i) (.int j) (.im (.int (g i j))) :=
  ⟨_, h, fun ρ σ H0 H x y Q E r1 r2 q => ⟨i, j, r1.int, r2.int, hc, q _ H H0 (Tr.refl _ _ _ _) E (rsl_im (rep_int _))⟩⟩
theorem Reps.reps {G : Ctx} {H : Hp} {ds : List D} {vs : List V} (h : Reps G H ds vs) : ∀ n : Nat, Reps G H (List.replicate n ds).flatten (List.replicate n vs).flatten
  | 0 => by simp only [List.replicate_zero, List.flatten_nil, Reps]
  | n + 1 => by
    rw [List.replicate_succ, List.replicate_succ, List.flatten_cons, List.flatten_cons]
    exact h.append (h.reps n)
theorem bin_ok {op : Operator} {d1 d2 : D} {s : Sl} (h : binD op d1 d2 = some s) : OpD X (binaryOp op) d1 d2 s := by
  unfold binD at h
  split at h
  · cases h; exact opD_int op_add
  · cases h; exact opD_int op_sub
  · split at h
    · rename_i hc
      cases h
      refine opD_intC op_mul ?_
      unfold cmul at hc
      simp only [Bool.or_eq_true, Bool.and_eq_true, decide_eq_true_eq] at hc
      exact hc
    · cases h
  · split at h
    · rename_i hc
      cases h; exact opD_intC op_fdiv hc
    · cases h
  · split at h
    · rename_i hc
      cases h; exact opD_intC op_mod hc
    · cases h
  · split at h
    · rename_i i j hc
      cases h
      exact ⟨_, op_add_str, fun ρ σ H0 H x y Q E r1 r2 q => ⟨i, j, r1.str, r2.str, sline_le hc, q _ H H0 (Tr.refl _ _ _ _) E (rsl_im (rep_str _))⟩⟩
    · cases h
  · split at h
    · rename_i xs ys hc
      cases h
      refine ⟨_, op_catN, fun ρ σ H0 H x y Q E r1 r2 q => ?_⟩
      obtain ⟨a, vs, rfl, h1, h2⟩ := r1.tup
      obtain ⟨b, ws, rfl, h3, h4⟩ := r2.tup
      refine ⟨a, b, vs, ws, rfl, rfl, (.inl (ex_rd E.ex h1)), (.inl (ex_rd E.ex h3)), ?_, fun e => ?_, fun e1 e2 => ?_, fun e1 e2 p o hp ho => ?_⟩
      · rw [← h2.length, ← h4.length]; exact sline_le hc
      · subst e
        have : xs = [] := List.eq_nil_of_length_eq_zero (by rw [h2.length]; rfl)
        subst this
        exact q _ H H0 (Tr.refl _ _ _ _) E (rsl_im r2)
      · subst e2
        have : ys = [] := List.eq_nil_of_length_eq_zero (by rw [h4.length]; rfl)
        subst this
        rw [List.append_nil] at q
        exact q _ H H0 (Tr.refl _ _ _ _) E (rsl_im r1)
      · have hp0 := E.ex.back hp
        exact q _ _ _ (Tr.newI hp hp0) (E.newI hp) (rsl_im (rep_tupO (.new ho) ((h2.append h4).ex (Ex.new hp0))))
    · cases h
  · split at h
    · rename_i xs ys hc
      cases h
      refine ⟨_, op_cat, fun ρ σ H0 H x y Q E r1 r2 q => ?_⟩
      obtain ⟨a, vs, rfl, h1, h2⟩ := r1.lst
      obtain ⟨b, ws, rfl, h3, h4⟩ := r2.lst
      refine ⟨a, b, vs, ws, rfl, rfl, E.ex _ _ h1, E.ex _ _ h3, ?_, fun p hp => ?_⟩
      · rw [← h2.length, ← h4.length]; exact sline_le hc
      · exact q _ _ _ (Tr.newO hp) (E.newO hp) (RSl.newO E hp (h2.append h4))
    · cases h
  · split at h
    · rename_i xs k hc
      cases h
      rw [Bool.and_eq_true, Bool.or_eq_true, decide_eq_true_eq, decide_eq_true_eq] at hc
      refine ⟨_, op_once, fun ρ σ H0 H x y Q E r1 r2 q => ?_⟩
      obtain ⟨a, vs, rfl, h1, h2⟩ := r1.tup
      refine ⟨a, k, vs, rfl, r2.int, .inl (ex_rd E.ex h1), ?_, hc.2, q _ H H0 (Tr.refl _ _ _ _) E (rsl_im r1)⟩
      rcases hc.1 with z | z
      · rw [List.isEmpty_iff] at z
        subst z
        exact .inl (List.eq_nil_of_length_eq_zero (by rw [← h2.length]; rfl))
      · exact .inr z
    · split at h
      · rename_i xs k hn hc
        cases h
        refine ⟨_, op_repN, fun ρ σ H0 H x y Q E r1 r2 q => ?_⟩
        obtain ⟨a, vs, rfl, h1, h2⟩ := r1.tup
        refine ⟨a, k, vs, rfl, r2.int, .inl (ex_rd E.ex h1), fun z => ?_, hc.1, hc.2.1, by rw [← h2.length]; exact hc.2.2, fun p o hp ho => ?_⟩
        · subst z
          have e : xs = [] := List.eq_nil_of_length_eq_zero (by rw [h2.length]; rfl)
          subst e
          exact hn (by simp; omega)
        · have hp0 := E.ex.back hp
          exact q _ _ _ (Tr.newI hp hp0) (E.newI hp) (rsl_im (rep_tupO (.new ho) ((h2.reps k.toNat).ex (Ex.new hp0))))
      · split at h
        · rename_i xs k hn hc2 hc
          cases h
          refine ⟨_, op_zeroN, fun ρ σ H0 H x y Q E r1 r2 q => ?_⟩
          obtain ⟨a, vs, rfl, h1, h2⟩ := r1.tup
          refine ⟨a, k, vs, rfl, r2.int, .inl (ex_rd E.ex h1), fun z => ?_, hc, fun p o hp ho => ?_⟩
          · subst z
            have e : xs = [] := List.eq_nil_of_length_eq_zero (by rw [h2.length]; rfl)
            subst e
            exact hn (by simp; omega)
          · have hp0 := E.ex.back hp
            exact q _ _ _ (Tr.newI hp hp0) (E.newI hp) (rsl_im (rep_tupO (.new ho) Reps.nil))
        · cases h
  · split at h
    · rename_i xs k hc
      cases h
      refine ⟨_, op_rep, fun ρ σ H0 H x y Q E r1 r2 q => ?_⟩
      obtain ⟨a, vs, rfl, h1, h2⟩ := r1.lst
      refine ⟨a, k, vs, rfl, r2.int, E.ex _ _ h1, by omega, by omega, ?_, fun p hp => ?_⟩
      · rw [← h2.length]
        have h3 : xs.length * k.toNat ≤ 1000 * 1000 := Nat.mul_le_mul hc.2.2 (by omega)
        exact Nat.le_trans h3 (by decide)
      · exact q _ _ _ (Tr.newO hp) (E.newO hp) (RSl.newO E hp (h2.reps k.toNat))
    · cases h
  · cases h
def binE (op : Operator) (ea eb : Rho → Option (D × Rho)) (ρ : Rho) : Option (Sl × Rho) := match ea ρ with
  | some (d1, ρ1) => match eb ρ1 with
    | some (d2, ρ2) => match binD op d1 d2 with
      | some s => some (s, ρ2)
      | none => none
    | none => none
  | none => none
theorem pe_binS {op : Operator} {a b : Expr} {pos : Pos} {ea eb : Rho → Option (D × Rho)} (ha : PE X a (tD (Cx.G X) ea)) (hb : PE X b (tD (Cx.G X) eb)) : PE X (.BinOp a op b pos) (tS (Cx.G X) (binE op ea eb)) := PE.of fun σ H Q q => by
  obtain ⟨ρ, s, ρ', H0, hev, E, q⟩ := q
  unfold binE at hev
  split at hev
  · rename_i d1 ρ1 h1
    split at hev
    · rename_i d2 ρ2 h2
      split at hev
      · rename_i s' h3
        simp only [Option.some.injEq, Prod.mk.injEq] at hev
        obtain ⟨rfl, rfl⟩ := hev
        obtain ⟨r, hr, hq⟩ := bin_ok (X := X) h3
        refine ⟨_, pe_op hr ha hb, ?_⟩
        refine ⟨ρ, d1, ρ1, H0, h1, E, fun v1 H1 H01 T1 E1 r1 => ⟨ρ1, d2, ρ2, H01, h2, E1, fun v2 H2 H02 T2 E2 r2 => ?_⟩⟩
        refine hq ρ2 σ H02 H2 v1 v2 Q E2 (r1.ex T2.ex) r2 fun v H' H0' T E' r => ?_
        have TT := T1.trans T2
        exact q v H' H0' (TT.trans T) E' (r.via TT)
      · cases hev
    · cases hev
  · cases hev

/-! ### comparisons -/
def eqFlat : D → D → Bool
  | .none, .none => true | .none, .int _ => true | .int _, .none => true | .none, .bool _ => true | .bool _, .none => true | .none, .str _ => true | .str _, .none => true
  | .int _, .int _ => true | .bool _, .bool _ => true | .str _, .str _ => true
  | .int _, .str _ => true | .str _, .int _ => true | .bool _, .str _ => true | .str _, .bool _ => true
  | _, _ => false
def eqOk (d e : D) : Bool := eqFlat d e || (SeqAt.shaped d && SeqAt.shaped e)
theorem eqFlat_ok {G : Ctx} {H : Hp} {d e : D} {x y : V} (h : eqFlat d e = true) (r1 : Rep G H d x) (r2 : Rep G H e y) : scal x y = true ∧ decide (x = y) = PyData.eqv d e := by
  cases d <;> cases e <;> first
    | (simp only [eqFlat] at h; cases h; done)
    | (simp only [Rep] at r1 r2; subst r1; subst r2; refine ⟨rfl, ?_⟩; simp [PyData.eqv, Bool.beq_eq_decide_eq]; done)
    | (exfalso; simp [eqFlat] at h; done)
def isD (neg : Bool) : D → D → Option Bool
  | d, .none => match d with
    | .none => some (!neg)
    | _ => some neg
  | .bool a, .bool b => some (if neg then !decide (a = b) else decide (a = b))
  | _, _ => none
/-- in, of scalars -/
def flatD : D → Bool
  | .none => true | .bool _ => true | .int _ => true | .str _ => true | _ => false
def inD (x : D) (xs : List D) : Bool := xs.any fun y => PyData.eqv y x
def cmpD : CmpOp → D → D → Option Bool
  | .Eq, d, e => if eqOk d e then some (PyData.eqv d e) else if strNe d e then some false else none
  | .NotEq, d, e => if eqOk d e then some (!PyData.eqv d e) else none
  | .Lt, .int i, .int j => some (decide (i < j))
  | .LtE, .int i, .int j => some (decide (i ≤ j))
  | .Gt, .int i, .int j => some (decide (j < i))
  | .GtE, .int i, .int j => some (decide (j ≤ i))
  | .Is, d, e => isD false d e
  | .IsNot, d, e => isD true d e
  | .In, x, .list xs => if flatD x && xs.all flatD then some (inD x xs) else if low x && SeqAt.shaped (.list xs) then some (inD x xs) else none
  | .In, x, .tuple xs => if flatD x && xs.all flatD then some (inD x xs) else if low x && SeqAt.shaped (.tuple xs) then some (inD x xs) else none
  | .NotIn, x, .list xs => if flatD x && xs.all flatD then some (!inD x xs) else if low x && SeqAt.shaped (.list xs) then some (!inD x xs) else none
  | .NotIn, x, .tuple xs => if flatD x && xs.all flatD then some (!inD x xs) else if low x && SeqAt.shaped (.tuple xs) then some (!inD x xs) else none
  | .Lt, .tuple xs, .tuple ys => if low (.tuple xs) && low (.tuple ys) then ltD (.tuple xs) (.tuple ys) else none
  | _, _, _ => none
theorem flat_v {G : Ctx} {H : Hp} {d : D} {x : V} (h : flatD d = true) (r : Rep G H d x) : flatV x = true := by
  cases d <;> first | (simp only [Rep] at r; subst r; rfl) | (simp [flatD] at h)
theorem eqV_of {G : Ctx} {H : Hp} {d e : D} {x y : V} (h : flatD d = true) (h' : flatD e = true) (r : Rep G H d x) (r' : Rep G H e y) : eqV x y = PyData.eqv d e := by
  cases d <;> cases e <;> first
    | (exfalso; simp [flatD] at h; done)
    | (exfalso; simp [flatD] at h'; done)
    | (simp only [Rep] at r r'; subst r; subst r'; first | rfl | (simp [PyData.eqv, eqV]; done) | (simp only [PyData.eqv, eqV]; done))
theorem inV_of {G : Ctx} {H : Hp} {d : D} {x : V} (h : flatD d = true) (r : Rep G H d x) : ∀ {ds : List D} {vs : List V}, ds.all flatD = true → Reps G H ds vs → vs.all flatV = true ∧ inV x vs = inD d ds
  | [], _, _, q => by simp only [Reps] at q; subst q; exact ⟨rfl, rfl⟩
  | e :: ds, _, ha, q => by
    simp only [Reps] at q
    obtain ⟨w, ws, rfl, h1, h2⟩ := q
    simp only [List.all_cons, Bool.and_eq_true] at ha
    obtain ⟨i1, i2⟩ := inV_of h r ha.2 h2
    refine ⟨by rw [List.all_cons, flat_v ha.1 h1, i1]; rfl, ?_⟩
    unfold inV inD at *
    rw [List.any_cons, List.any_cons, eqV_of ha.1 h h1 r, i2]

theorem shaped_noDict {d : D} (h : SeqAt.shaped d = true) : d.hasDict = false := PyData.hasDict_of_canLay d (SeqAt.canLay_of_shaped h)
theorem rep_ne_non {G : Ctx} {H : Hp} {d : D} {x : V} (r : Rep G H d x) (h : d ≠ .none) : x ≠ .non := fun z => by
  subst z
  cases d <;> first | exact h rfl | (simp only [Rep] at r; obtain ⟨a, z⟩ := RepX.ref r; cases z; done) | (simp only [Rep] at r; first | (obtain ⟨_, _, z, _⟩ := r; cases z; done) | cases r) | (simp only [Rep] at r)
def OpB (X : L2.Cx) (f : Value → Value → Sem Value) (d1 d2 : D) (b : Bool) : Prop := ∃ r : R2, OpR X f r ∧ ∀ (H0 H : Hp) (x y : V) (Q : VK), Ex H0 H → Rep (Cx.G X) H0 d1 x → Rep (Cx.G X) H0 d2 y → Q (.bl b) H → r x y H Q
theorem cmp_ok (hr : X.A.units + 64 < cLine) {op : CmpOp} {d1 d2 : D} {b : Bool} (h : cmpD op d1 d2 = some b) : OpB X (compareOp op) d1 d2 b := by
  unfold cmpD at h
  split at h
  · split at h
    · rename_i hc
      cases h
      unfold eqOk at hc
      simp only [Bool.or_eq_true, Bool.and_eq_true] at hc
      rcases hc with hc | hc
      · refine ⟨_, op_eq, fun H0 H x y Q E r1 r2 q => ?_⟩
        obtain ⟨h1, h2⟩ := eqFlat_ok hc r1 r2
        exact ⟨h1, by rw [h2]; exact q⟩
      · exact ⟨_, op_eqD hr, fun H0 H x y Q E r1 r2 q => ⟨_, _, Rep.dp (shaped_noDict hc.1) (r1.ex E), Rep.dp (shaped_noDict hc.2) (r2.ex E), hc.1, hc.2, q⟩⟩
    · split at h
      · rename_i hs
        cases h
        refine ⟨_, op_eqS hr, fun H0 H x y Q E r1 r2 q => ?_⟩
        unfold strNe at hs
        split at hs
        · simp only [Rep] at r1
          obtain ⟨a, rfl, ha⟩ := r1
          exact ⟨a, _, rfl, r2.str, .inl ⟨_, E _ _ ha⟩, q⟩
        · simp only [Rep] at r1
          obtain ⟨a, rfl, ha⟩ := r1
          exact ⟨a, _, rfl, r2.str, .inl ⟨_, E _ _ ha⟩, q⟩
        · obtain ⟨a, vs, rfl, ha, _⟩ := r1.tup
          exact ⟨a, _, rfl, r2.str, .inr (.inr ⟨vs, .inl (ex_rd E ha)⟩), q⟩
        · obtain ⟨a, vs, rfl, ha, _⟩ := r1.lst
          exact ⟨a, _, rfl, r2.str, .inr (.inl ⟨vs, SqL.of (E _ _ ha)⟩), q⟩
        · cases hs
      · cases h
  · split at h
    · rename_i hc
      cases h
      unfold eqOk at hc
      simp only [Bool.or_eq_true, Bool.and_eq_true] at hc
      rcases hc with hc | hc
      · refine ⟨_, op_ne, fun H0 H x y Q E r1 r2 q => ?_⟩
        obtain ⟨h1, h2⟩ := eqFlat_ok hc r1 r2
        exact ⟨h1, by rw [h2]; exact q⟩
      · exact ⟨_, op_neD hr, fun H0 H x y Q E r1 r2 q => ⟨_, _, Rep.dp (shaped_noDict hc.1) (r1.ex E), Rep.dp (shaped_noDict hc.2) (r2.ex E), hc.1, hc.2, q⟩⟩
    · cases h
  · cases h; exact ⟨_, op_lt, fun H0 H x y Q E r1 r2 q => ⟨_, _, r1.int, r2.int, q⟩⟩
  · cases h; exact ⟨_, op_le, fun H0 H x y Q E r1 r2 q => ⟨_, _, r1.int, r2.int, q⟩⟩
  · cases h; exact ⟨_, op_gt, fun H0 H x y Q E r1 r2 q => ⟨_, _, r1.int, r2.int, q⟩⟩
  · cases h; exact ⟨_, op_ge, fun H0 H x y Q E r1 r2 q => ⟨_, _, r1.int, r2.int, q⟩⟩
  · unfold isD at h
    split at h
    · split at h
      · cases h; exact ⟨_, op_isN, fun H0 H x y Q E r1 r2 q => ⟨r2.non, by rw [r1.non]; exact q⟩⟩
      · rename_i d hd
        cases h
        refine ⟨_, op_isN, fun H0 H x y Q E r1 r2 q => ⟨r2.non, ?_⟩⟩
        rw [decide_eq_false (rep_ne_non r1 (fun z => hd z))]; exact q
    · cases h; exact ⟨_, op_is_bl, fun H0 H x y Q E r1 r2 q => ⟨_, _, r1.bl, r2.bl, q⟩⟩
    · cases h
  · unfold isD at h
    split at h
    · split at h
      · cases h; exact ⟨_, op_notN, fun H0 H x y Q E r1 r2 q => ⟨r2.non, by rw [r1.non]; exact q⟩⟩
      · rename_i d hd
        cases h
        refine ⟨_, op_notN, fun H0 H x y Q E r1 r2 q => ⟨r2.non, ?_⟩⟩
        rw [decide_eq_false (rep_ne_non r1 (fun z => hd z))]; exact q
    · cases h; exact ⟨_, op_isnot_bl, fun H0 H x y Q E r1 r2 q => ⟨_, _, r1.bl, r2.bl, q⟩⟩
    · cases h
  · split at h
    · rename_i hc
      cases h
      simp only [Bool.and_eq_true] at hc
      refine ⟨_, op_in_seq, fun H0 H x y Q E r1 r2 q => ?_⟩
      obtain ⟨a, vs, rfl, h1, h2⟩ := r2.lst
      obtain ⟨i1, i2⟩ := inV_of hc.1 r1 hc.2 h2
      exact ⟨a, vs, rfl, .inl (SqL.of (E _ _ h1)), flat_v hc.1 r1, i1, by simpa [i2] using q⟩
    · split at h
      · rename_i hc
        cases h
        simp only [Bool.and_eq_true] at hc
        have hs : SeqAt.shaped d1 = true := by
          have := hc.1
          unfold low at this
          simp only [Bool.and_eq_true] at this
          exact this.1
        exact ⟨_, op_inT hr, fun H0 H x y Q E r1 r2 q => ⟨_, _, _, Rep.dp (shaped_noDict hs) (r1.ex E), Rep.dp (shaped_noDict hc.2) (r2.ex E), .inl rfl, hc.1, hc.2, q⟩⟩
      · cases h
  · split at h
    · rename_i hc
      cases h
      simp only [Bool.and_eq_true] at hc
      refine ⟨_, op_in_seq, fun H0 H x y Q E r1 r2 q => ?_⟩
      obtain ⟨a, vs, rfl, h1, h2⟩ := r2.tup
      obtain ⟨i1, i2⟩ := inV_of hc.1 r1 hc.2 h2
      exact ⟨a, vs, rfl, .inr ((.inl (ex_rd E h1))), flat_v hc.1 r1, i1, by simpa [i2] using q⟩
    · split at h
      · rename_i hc
        cases h
        simp only [Bool.and_eq_true] at hc
        have hs : SeqAt.shaped d1 = true := by
          have := hc.1
          unfold low at this
          simp only [Bool.and_eq_true] at this
          exact this.1
        exact ⟨_, op_inT hr, fun H0 H x y Q E r1 r2 q => ⟨_, _, _, Rep.dp (shaped_noDict hs) (r1.ex E), Rep.dp (shaped_noDict hc.2) (r2.ex E), .inr rfl, hc.1, hc.2, q⟩⟩
      · cases h
  · split at h
    · rename_i hc
      cases h
      simp only [Bool.and_eq_true] at hc
      refine ⟨_, op_notIn_seq, fun H0 H x y Q E r1 r2 q => ?_⟩
      obtain ⟨a, vs, rfl, h1, h2⟩ := r2.lst
      obtain ⟨i1, i2⟩ := inV_of hc.1 r1 hc.2 h2
      exact ⟨a, vs, rfl, .inl (SqL.of (E _ _ h1)), flat_v hc.1 r1, i1, by simpa [i2] using q⟩
    · split at h
      · rename_i hc
        cases h
        simp only [Bool.and_eq_true] at hc
        have hs : SeqAt.shaped d1 = true := by
          have := hc.1
          unfold low at this
          simp only [Bool.and_eq_true] at this
          exact this.1
        exact ⟨_, op_notInT hr, fun H0 H x y Q E r1 r2 q => ⟨_, _, _, Rep.dp (shaped_noDict hs) (r1.ex E), Rep.dp (shaped_noDict hc.2) (r2.ex E), .inl rfl, hc.1, hc.2, q⟩⟩
      · cases h
  · split at h
    · rename_i hc
      cases h
      simp only [Bool.and_eq_true] at hc
      refine ⟨_, op_notIn_seq, fun H0 H x y Q E r1 r2 q => ?_⟩
      obtain ⟨a, vs, rfl, h1, h2⟩ := r2.tup
      obtain ⟨i1, i2⟩ := inV_of hc.1 r1 hc.2 h2
      exact ⟨a, vs, rfl, .inr ((.inl (ex_rd E h1))), flat_v hc.1 r1, i1, by simpa [i2] using q⟩
    · split at h
      · rename_i hc
        cases h
        simp only [Bool.and_eq_true] at hc
        have hs : SeqAt.shaped d1 = true := by
          have := hc.1
          unfold low at this
          simp only [Bool.and_eq_true] at this
          exact this.1
        exact ⟨_, op_notInT hr, fun H0 H x y Q E r1 r2 q => ⟨_, _, _, Rep.dp (shaped_noDict hs) (r1.ex E), Rep.dp (shaped_noDict hc.2) (r2.ex E), .inr rfl, hc.1, hc.2, q⟩⟩
      · cases h
  · split at h
    · rename_i xs ys hc
      simp only [Bool.and_eq_true] at hc
      have hs : ∀ d, low d = true → SeqAt.shaped d = true := fun d hd => by
        unfold low at hd
        simp only [Bool.and_eq_true] at hd
        exact hd.1
      exact ⟨_, op_ltD hr, fun H0 H x y Q E r1 r2 q => ⟨_, _, b, Rep.dp (shaped_noDict (hs _ hc.1)) (r1.ex E), Rep.dp (shaped_noDict (hs _ hc.2)) (r2.ex E), h, hc.1, hc.2, q⟩⟩
    · cases h
  · cases h

/-- a op b, a op b op c -/
def cmpE (op : CmpOp) (b : Expr) (ea eb : Rho → Option (D × Rho)) (ρ : Rho) : Option (Bool × Rho) := match ea ρ with
  | some (d1, ρ1) => match eb ρ1 with
    | some (d2, ρ2) => if behindInMarks op b then none else match cmpD op d1 d2 with
      | some s => some (s, ρ2)
      | none => none
    | none => none
  | none => none
def chainE (op op' : CmpOp) (b c : Expr) (ea eb ec : Rho → Option (D × Rho)) (ρ : Rho) : Option (Bool × Rho) := match ea ρ with
  | some (d1, ρ1) => match eb ρ1 with
    | some (d2, ρ2) => if lastMarks [op, op'] [b, c] then none else match cmpD op d1 d2 with
      | some true => match ec ρ2 with
        | some (d3, ρ3) => match cmpD op' d2 d3 with
          | some s => some (s, ρ3)
          | none => none
        | none => none
      | some false => some (false, ρ2)
      | none => none
    | none => none
  | none => none
def toD (ev : Rho → Option (Bool × Rho)) (ρ : Rho) : Option (D × Rho) := (ev ρ).map fun p => (.bool p.1, p.2)
theorem toD_eq {ev : Rho → Option (Bool × Rho)} {ρ ρ' : Rho} {d : D} (h : toD ev ρ = some (d, ρ')) : ∃ b, ev ρ = some (b, ρ') ∧ d = .bool b := by
  unfold toD at h
  cases q : ev ρ with
  | none => rw [q] at h; cases h
  | some r =>
    rw [q] at h
    simp only [Option.map_some, Option.some.injEq, Prod.mk.injEq] at h
    obtain ⟨h1, rfl⟩ := h
    exact ⟨_, rfl, h1.symm⟩
variable {a b c : Expr} {pos : Pos} {ea eb ec : Rho → Option (D × Rho)} {k : Nat}
theorem cmpE_run (hr : X.A.units + 64 < cLine) {op : CmpOp} {ρ ρ' : Rho} {s : Bool} (hev : cmpE op b ea eb ρ = some (s, ρ')) : behindInMarks op b = false ∧ ∃ r : R2, OpR X (compareOp op) r ∧
    ∀ σ H0 H Q, REnv (Cx.G X) ρ σ H0 H → (∀ H' H0', Tr ρ σ H0 H ρ' σ H0' H' → REnv (Cx.G X) ρ' σ H0' H' → Q (.bl s) H') → tOp r (tD (Cx.G X) ea) (tD (Cx.G X) eb) σ H Q := by
  unfold cmpE at hev
  split at hev
  · rename_i d1 ρ1 h1
    split at hev
    · rename_i d2 ρ2 h2
      split at hev
      · cases hev
      · rename_i hm
        split at hev
        · rename_i s' h3
          simp only [Option.some.injEq, Prod.mk.injEq] at hev
          obtain ⟨rfl, rfl⟩ := hev
          obtain ⟨r, hr', hq⟩ := cmp_ok hr h3
          refine ⟨by simpa using hm, r, hr', fun σ H0 H Q E q => ?_⟩
          refine ⟨ρ, d1, ρ1, H0, h1, E, fun v1 H1 H01 T1 E1 r1 => ⟨ρ1, d2, ρ2, H01, h2, E1, fun v2 H2 H02 T2 E2 r2 => ?_⟩⟩
          exact hq H02 H2 v1 v2 Q E2.ex (r1.ex T2.ex) r2 (q _ _ (T1.trans T2) E2)
        · cases hev
    · cases hev
  · cases hev
theorem pe_cmpD (hr : X.A.units + 64 < cLine) {op : CmpOp} (ha : PE X a (tD (Cx.G X) ea)) (hb : PE X b (tD (Cx.G X) eb)) : PE X (.Compare a [op] [b] pos) (tD (Cx.G X) (toD (cmpE op b ea eb))) := PE.of fun σ H Q q => by
  obtain ⟨ρ, s, ρ', H0, hev, E, q⟩ := q
  obtain ⟨s', hev2, rfl⟩ := toD_eq hev
  obtain ⟨hm, r, hr', hq⟩ := cmpE_run hr hev2
  exact ⟨_, pe_cmpR hr' ha hb hm, hq σ H0 H Q E fun H' H0' T E' => q _ H' H0' T E' (rep_bl _)⟩
theorem pt_cmpD (hr : X.A.units + 64 < cLine) {op : CmpOp} (ha : PE X a (tD (Cx.G X) ea)) (hb : PE X b (tD (Cx.G X) eb)) : PT X (.Compare a [op] [b] pos) (tT (Cx.G X) (cmpE op b ea eb)) := PT.of fun σ H Q q => by
  obtain ⟨ρ, s, ρ', H0, hev, E, q⟩ := q
  obtain ⟨hm, r, hr', hq⟩ := cmpE_run hr hev
  exact ⟨_, pt_cmpR hr' ha hb hm, hq σ H0 H _ E fun H' H0' T E' => ⟨s, rfl, q H' H0' T E'⟩⟩
theorem chainE_run (hr : X.A.units + 64 < cLine) {op op' : CmpOp} {ρ ρ' : Rho} {s : Bool} (hev : chainE op op' b c ea eb ec ρ = some (s, ρ')) : lastMarks [op, op'] [b, c] = false ∧ ∃ r r' : R2, OpR X (compareOp op) r ∧ OpR X (compareOp op') r' ∧
    ∀ σ H0 H Q, REnv (Cx.G X) ρ σ H0 H → (∀ H' H0', Tr ρ σ H0 H ρ' σ H0' H' → REnv (Cx.G X) ρ' σ H0' H' → Q (.bl s) H') → tChain r r' (tD (Cx.G X) ea) (tD (Cx.G X) eb) (tD (Cx.G X) ec) σ H Q := by
  unfold chainE at hev
  split at hev
  · rename_i d1 ρ1 h1
    split at hev
    · rename_i d2 ρ2 h2
      split at hev
      · cases hev
      · rename_i hm
        split at hev
        · rename_i h3
          split at hev
          · rename_i d3 ρ3 h4
            split at hev
            · rename_i s' h5
              simp only [Option.some.injEq, Prod.mk.injEq] at hev
              obtain ⟨rfl, rfl⟩ := hev
              obtain ⟨r, hr1, hq⟩ := cmp_ok hr h3
              obtain ⟨r', hr2, hq'⟩ := cmp_ok hr h5
              refine ⟨by simpa using hm, r, r', hr1, hr2, fun σ H0 H Q E q => ?_⟩
              refine ⟨ρ, d1, ρ1, H0, h1, E, fun v1 H1 H01 T1 E1 r1 => ⟨ρ1, d2, ρ2, H01, h2, E1, fun v2 H2 H02 T2 E2 r2 => ?_⟩⟩
              refine hq H02 H2 v1 v2 _ E2.ex (r1.ex T2.ex) r2 ⟨true, rfl, ?_⟩
              rw [if_pos rfl]
              refine ⟨ρ2, d3, ρ3, H02, h4, E2, fun v3 H3 H03 T3 E3 r3 => ?_⟩
              exact hq' H03 H3 v2 v3 Q E3.ex (r2.ex T3.ex) r3 (q _ _ ((T1.trans T2).trans T3) E3)
            · cases hev
          · cases hev
        · rename_i h3
          simp only [Option.some.injEq, Prod.mk.injEq] at hev
          obtain ⟨rfl, rfl⟩ := hev
          obtain ⟨r, hr1, hq⟩ := cmp_ok hr h3
          refine ⟨by simpa using hm, r, (fun _ _ _ _ => False), hr1, (fun _ _ _ _ _ _ _ _ _ _ _ _ z => z.elim), fun σ H0 H Q E q => ?_⟩
          · refine ⟨ρ, d1, ρ1, H0, h1, E, fun v1 H1 H01 T1 E1 r1 => ⟨ρ1, d2, ρ2, H01, h2, E1, fun v2 H2 H02 T2 E2 r2 => ?_⟩⟩
            refine hq H02 H2 v1 v2 _ E2.ex (r1.ex T2.ex) r2 ⟨false, rfl, ?_⟩
            rw [if_neg Bool.false_ne_true]
            exact q _ _ (T1.trans T2) E2
        · cases hev
    · cases hev
  · cases hev
end
end Dv

set_option Elab.async false
set_option linter.all false
set_option maxRecDepth 100000
set_option maxHeartbeats 4000000
namespace Dv
open PySem L2
variable [TabC]

def truD : D → Option Bool
  | .none => some false
  | .bool b => some b
  | .int i => some (i != 0)
  | .str x => if x.length ≤ sline then some ((x.length : Int) != 0) else none
  | .list xs => some (!xs.isEmpty)
  | .tuple xs => some (!xs.isEmpty)
  | .dict _ => none
section
variable {X : L2.Cx} {a b c : Expr} {pos : Pos} {ea eb ec : Rho → Option (D × Rho)} {k : Nat}
theorem isEmpty_of {G : Ctx} {H : Hp} {ds : List D} {vs : List V} (r : Reps G H ds vs) : vs.isEmpty = ds.isEmpty := by
  cases ds with
  | nil => simp only [Reps] at r; subst r; rfl
  | cons d ds => simp only [Reps] at r; obtain ⟨_, _, rfl, _, _⟩ := r; rfl
theorem tru_of {H0 H : Hp} {d : D} {x : V} {t : Bool} (h : truD d = some t) (e : Ex H0 H) (r : Rep (Cx.G X) H0 d x) : TruV X.K x H t := by
  cases d with
  | none => simp only [truD, Option.some.injEq] at h; subst h; rw [r.non]; rfl
  | bool b => simp only [truD, Option.some.injEq] at h; subst h; rw [r.bl]; rfl
  | int b => simp only [truD, Option.some.injEq] at h; subst h; rw [r.int]; rfl
  | str z =>
    simp only [truD] at h
    split at h
    · rename_i hl
      simp only [Option.some.injEq] at h; subst h; rw [r.str]; exact ⟨sline_le hl, rfl⟩
    · cases h
  | list xs =>
    simp only [truD, Option.some.injEq] at h; subst h
    obtain ⟨p, vs, rfl, h1, h2⟩ := r.lst
    exact .inl ⟨vs, SqL.of (e _ _ h1), by rw [isEmpty_of h2]⟩
  | tuple xs =>
    simp only [truD, Option.some.injEq] at h; subst h
    obtain ⟨p, vs, rfl, h1, h2⟩ := r.tup
    exact .inr (.inl ⟨vs, (.inl (ex_rd e h1)), by rw [isEmpty_of h2]⟩)
  | dict _ => simp [truD] at h
def truE (ea : Rho → Option (D × Rho)) (ρ : Rho) : Option (Bool × Rho) := match ea ρ with
  | some (d, ρ1) => match truD d with
    | some t => some (t, ρ1)
    | none => none
  | none => none
theorem pt_truE (ha : PE X a (tD (Cx.G X) ea)) (he : ∀ whole, isTrue a X.env whole = (do let v ← whole; standAt a.pos; holding [v] (truthy v))) : PT X a (tT (Cx.G X) (truE ea)) := PT.of fun σ H Q q => by
  refine ⟨_, pt_truth ha he, ?_⟩
  obtain ⟨ρ, s, ρ', H0, hev, E, q⟩ := q
  unfold truE at hev
  split at hev
  · rename_i d ρ1 h1
    split at hev
    · rename_i t ht
      simp only [Option.some.injEq, Prod.mk.injEq] at hev
      obtain ⟨rfl, rfl⟩ := hev
      exact ⟨ρ, d, ρ1, H0, h1, E, fun v H' H0' T E' r => ⟨t, tru_of ht E'.ex r, q H' H0' T E'⟩⟩
    · cases hev
  · cases hev
def notD (ea : Rho → Option (D × Rho)) (ρ : Rho) : Option (D × Rho) := match truE ea ρ with
  | some (t, ρ1) => some (.bool (!t), ρ1)
  | none => none
theorem pe_notD (ha : PE X a (tD (Cx.G X) ea)) : PE X (.UnaryOp .Not a pos) (tD (Cx.G X) (notD ea)) := PE.of fun σ H Q q => by
  refine ⟨_, pe_notT ha, ?_⟩
  obtain ⟨ρ, s, ρ', H0, hev, E, q⟩ := q
  unfold notD truE at hev
  split at hev
  · rename_i t ρ1 h1
    simp only [Option.some.injEq, Prod.mk.injEq] at hev
    obtain ⟨rfl, rfl⟩ := hev
    split at h1
    · rename_i d ρ2 h2
      split at h1
      · rename_i t' ht
        simp only [Option.some.injEq, Prod.mk.injEq] at h1
        obtain ⟨rfl, rfl⟩ := h1
        exact ⟨ρ, d, ρ2, H0, h2, E, fun v H' H0' T E' r => ⟨t', tru_of ht E'.ex r, q _ H' H0' T E' (rep_bl _)⟩⟩
      · cases h1
    · cases h1
  · cases hev
def notTE (et : Rho → Option (Bool × Rho)) (ρ : Rho) : Option (Bool × Rho) := match et ρ with
  | some (t, ρ1) => some (!t, ρ1)
  | none => none
theorem pt_notE {et : Rho → Option (Bool × Rho)} (ha : PT X a (tT (Cx.G X) et)) : PT X (.UnaryOp .Not a pos) (tT (Cx.G X) (notTE et)) := PT.of fun σ H Q q => by
  refine ⟨_, pt_not ha, ?_⟩
  obtain ⟨ρ, s, ρ', H0, hev, E, q⟩ := q
  unfold notTE at hev
  split at hev
  · rename_i t ρ1 h1
    simp only [Option.some.injEq, Prod.mk.injEq] at hev
    obtain ⟨rfl, rfl⟩ := hev
    exact ⟨ρ, t, ρ1, H0, h1, E, fun H' H0' T E' => q H' H0' T E'⟩
  · cases hev
theorem pt_chainD (hr : X.A.units + 64 < cLine) {op op' : CmpOp} (ha : PE X a (tD (Cx.G X) ea)) (hb : PE X b (tD (Cx.G X) eb)) (hc : PE X c (tD (Cx.G X) ec)) : PT X (.Compare a [op, op'] [b, c] pos) (tT (Cx.G X) (chainE op op' b c ea eb ec)) := PT.of fun σ H Q q => by
  obtain ⟨ρ, s, ρ', H0, hev, E, q⟩ := q
  obtain ⟨hm, r, r', h1, h2, hq⟩ := chainE_run hr hev
  exact ⟨_, pt_chain h1 h2 ha hb hc hm, hq σ H0 H _ E fun H' H0' T E' => ⟨s, rfl, q H' H0' T E'⟩⟩
theorem pe_chainD (hr : X.A.units + 64 < cLine) {op op' : CmpOp} (ha : PE X a (tD (Cx.G X) ea)) (hb : PE X b (tD (Cx.G X) eb)) (hc : PE X c (tD (Cx.G X) ec)) : PE X (.Compare a [op, op'] [b, c] pos) (tD (Cx.G X) (toD (chainE op op' b c ea eb ec))) := PE.of fun σ H Q q => by
  obtain ⟨ρ, s, ρ', H0, hev, E, q⟩ := q
  obtain ⟨s', hev2, rfl⟩ := toD_eq hev
  obtain ⟨hm, r, r', h1, h2, hq⟩ := chainE_run hr hev2
  exact ⟨_, pe_chain h1 h2 ha hb hc hm, hq σ H0 H _ E fun H' H0' T E' => q _ H' H0' T E' (rep_bl _)⟩

/-! ### and, or -/
def boolE (op : BoolOp) (ev : Rho → Expr → Option (D × Rho)) : List Expr → Rho → Option (D × Rho)
  | [], _ => none
  | [e], ρ => ev ρ e
  | e :: e' :: es, ρ => match ev ρ e with
    | some (.bool c, ρ1) => match op, c with
      | .And, true => boolE op ev (e' :: es) ρ1
      | .And, false => some (.bool false, ρ1)
      | .Or, true => some (.bool true, ρ1)
      | .Or, false => boolE op ev (e' :: es) ρ1
    | _ => none
theorem PE.weak {e : Expr} {t t' : TE} (h : PE X e t) (w : ∀ σ H Q, t' σ H Q → t σ H Q) : PE X e t' := PE.of fun σ H Q q => ⟨t, h, w σ H Q q⟩
theorem PT.weak {e : Expr} {t t' : TT} (h : PT X e t) (w : ∀ σ H Q, t' σ H Q → t σ H Q) : PT X e t' := PT.of fun σ H Q q => ⟨t, h, w σ H Q q⟩
theorem pe_boolD {op : BoolOp} {ev : Rho → Expr → Option (D × Rho)} (h : ∀ e, PE X e (tD (Cx.G X) fun ρ => ev ρ e)) : ∀ es, PE X (.BoolOp op es pos) (tD (Cx.G X) (boolE op ev es))
  | [] => PE.of fun σ H Q q => by
    obtain ⟨ρ, s, ρ', H0, hev, E, q⟩ := q
    cases hev
  | [e] => PE.weak (pe_one (h e)) fun σ H Q q => q
  | e :: e' :: es => PE.of fun σ H Q q => by
    obtain ⟨ρ, s, ρ', H0, hev, E, q⟩ := q
    unfold boolE at hev
    split at hev
    · rename_i c ρ1 h1
      cases op with
      | And =>
        refine ⟨_, pe_and (h e) (pe_boolD h (e' :: es)), ?_⟩
        refine ⟨ρ, _, ρ1, H0, h1, E, fun v H1 H01 T1 E1 r1 => ⟨c, r1.bl, ?_⟩⟩
        cases c with
        | true =>
          rw [if_pos rfl]
          exact ⟨ρ1, s, ρ', H01, hev, E1, fun v H' H0' T E' r => q v H' H0' (T1.trans T) E' r⟩
        | false =>
          simp only [Option.some.injEq, Prod.mk.injEq] at hev
          obtain ⟨rfl, rfl⟩ := hev
          rw [if_neg Bool.false_ne_true]
          exact q _ H1 H01 T1 E1 (rep_bl _)
      | Or =>
        refine ⟨_, pe_or (h e) (pe_boolD h (e' :: es)), ?_⟩
        refine ⟨ρ, _, ρ1, H0, h1, E, fun v H1 H01 T1 E1 r1 => ⟨c, r1.bl, ?_⟩⟩
        cases c with
        | false =>
          rw [if_neg Bool.false_ne_true]
          exact ⟨ρ1, s, ρ', H01, hev, E1, fun v H' H0' T E' r => q v H' H0' (T1.trans T) E' r⟩
        | true =>
          simp only [Option.some.injEq, Prod.mk.injEq] at hev
          obtain ⟨rfl, rfl⟩ := hev
          rw [if_pos rfl]
          exact q _ H1 H01 T1 E1 (rep_bl _)
    · cases hev
def boolTE (op : BoolOp) (et : Rho → Expr → Option (Bool × Rho)) : List Expr → Rho → Option (Bool × Rho)
  | [], _ => none
  | [e], ρ => et ρ e
  | e :: e' :: es, ρ => match et ρ e with
    | some (c, ρ1) => match op, c with
      | .And, true => boolTE op et (e' :: es) ρ1
      | .And, false => some (false, ρ1)
      | .Or, true => some (true, ρ1)
      | .Or, false => boolTE op et (e' :: es) ρ1
    | none => none
theorem PW.of {e : Expr} {t : TT} (h : ∀ σ H Q, t σ H Q → ∃ t' : TT, PW X e t' ∧ t' σ H Q) : PW X e t := ⟨fun wh pins s σ H Q I q => by
  obtain ⟨t', h1, h2⟩ := h σ H Q q
  exact h1.run wh pins s σ H Q I h2⟩
theorem pw_boolE {op : BoolOp} {et : Rho → Expr → Option (Bool × Rho)} (h : ∀ e, PT X e (tT (Cx.G X) fun ρ => et ρ e)) : ∀ es, PW X (.BoolOp op es pos) (tT (Cx.G X) (boolTE op et es))
  | [] => PW.of fun σ H Q q => by
    obtain ⟨ρ, s, ρ', H0, hev, E, q⟩ := q
    cases hev
  | [e] => by cases op with
    | And => exact pw_and1 (h e)
    | Or => exact pw_or1 (h e)
  | e :: e' :: es => PW.of fun σ H Q q => by
    obtain ⟨ρ, s, ρ', H0, hev, E, q⟩ := q
    unfold boolTE at hev
    split at hev
    · rename_i c ρ1 h1
      cases op with
      | And =>
        refine ⟨_, pw_and (h e) (pw_boolE h (e' :: es)), ?_⟩
        refine ⟨ρ, _, ρ1, H0, h1, E, fun H1 H01 T1 E1 => ?_⟩
        cases c with
        | true =>
          rw [if_pos rfl]
          exact ⟨ρ1, s, ρ', H01, hev, E1, fun H' H0' T E' => q H' H0' (T1.trans T) E'⟩
        | false =>
          simp only [Option.some.injEq, Prod.mk.injEq] at hev
          obtain ⟨rfl, rfl⟩ := hev
          rw [if_neg Bool.false_ne_true]
          exact q H1 H01 T1 E1
      | Or =>
        refine ⟨_, pw_or (h e) (pw_boolE h (e' :: es)), ?_⟩
        refine ⟨ρ, _, ρ1, H0, h1, E, fun H1 H01 T1 E1 => ?_⟩
        cases c with
        | false =>
          rw [if_neg Bool.false_ne_true]
          exact ⟨ρ1, s, ρ', H01, hev, E1, fun H' H0' T E' => q H' H0' (T1.trans T) E'⟩
        | true =>
          simp only [Option.some.injEq, Prod.mk.injEq] at hev
          obtain ⟨rfl, rfl⟩ := hev
          rw [if_pos rfl]
          exact q H1 H01 T1 E1
    · cases hev
/-- a if t else b -/
def ifE (et : Rho → Option (Bool × Rho)) (ea eb : Rho → Option (Sl × Rho)) (ρ : Rho) : Option (Sl × Rho) := match et ρ with
  | some (true, ρ1) => ea ρ1
  | some (false, ρ1) => eb ρ1
  | none => none
theorem pe_ifS {et : Rho → Option (Bool × Rho)} {fa fb : Rho → Option (Sl × Rho)} (hc : PT X c (tT (Cx.G X) et)) (ha : PE X a (tS (Cx.G X) fa)) (hb : PE X b (tS (Cx.G X) fb)) : PE X (.IfExp c a b pos) (tS (Cx.G X) (ifE et fa fb)) := PE.of fun σ H Q q => by
  refine ⟨_, pe_ifExp hc ha hb, ?_⟩
  obtain ⟨ρ, s, ρ', H0, hev, E, q⟩ := q
  unfold ifE at hev
  split at hev
  · rename_i ρ1 h1
    refine ⟨ρ, _, ρ1, H0, h1, E, fun H1 H01 T1 E1 => ?_⟩
    dsimp only
    rw [if_pos rfl]
    exact ⟨ρ1, s, ρ', H01, hev, E1, fun v H' H0' T E' r => q v H' H0' (T1.trans T) E' (r.via T1)⟩
  · rename_i ρ1 h1
    refine ⟨ρ, _, ρ1, H0, h1, E, fun H1 H01 T1 E1 => ?_⟩
    dsimp only
    rw [if_neg Bool.false_ne_true]
    exact ⟨ρ1, s, ρ', H01, hev, E1, fun v H' H0' T E' r => q v H' H0' (T1.trans T) E' (r.via T1)⟩
  · cases hev
/-- -a -/
def negE (ea : Rho → Option (D × Rho)) (ρ : Rho) : Option (D × Rho) := match ea ρ with
  | some (.int i, ρ1) => some (.int (-i), ρ1)
  | _ => none
theorem pe_negD (ha : PE X a (tD (Cx.G X) ea)) : PE X (.UnaryOp .USub a pos) (tD (Cx.G X) (negE ea)) := PE.of fun σ H Q q => by
  refine ⟨_, pe_un un_neg ha, ?_⟩
  obtain ⟨ρ, s, ρ', H0, hev, E, q⟩ := q
  unfold negE at hev
  split at hev
  · rename_i i ρ1 h1
    simp only [Option.some.injEq, Prod.mk.injEq] at hev
    obtain ⟨rfl, rfl⟩ := hev
    exact ⟨ρ, _, ρ1, H0, h1, E, fun v H' H0' T E' r => ⟨i, r.int, q _ H' H0' T E' (rep_int _)⟩⟩
  · cases hev
end
end Dv

set_option Elab.async false
set_option linter.all false
set_option maxRecDepth 100000
set_option maxHeartbeats 4000000
/-! ### sorted of a tuple of whole numbers -/
namespace DvS
open PySem PyProof.Rows Srt SrtO
section
variable {prog : Program} {w : World} {A : Around} {E : Value → Shared → Prop} {s : Shared}
theorem walk_tup {l : Addr} {vs : List Value} {Q : List Value → Shared → Prop} (hl : s.heap.IsTuple l vs.toArray) (hz : vs.length ≤ sizeLine)
    (h : Q vs { s with heap := (s.heap.push (seqObj "list" #[] 0)).update s.heap.objs.size (Obj.mapSeq (· ++ vs.toArray)) }) : wpAny (model prog w) A (collect (.ref l)) Q E s := by
  obtain ⟨o, ho, hc, n, hd⟩ := id hl
  have hN : (s.heap.push (seqObj "list" #[] 0)).get? s.heap.objs.size = some (seqObj "list" #[] 0) := Heap.get?_push_size _ rfl
  unfold collect
  refine wpAny_bind (wpAny_runValue (codeAny_builtin entry_proto_collect' ?_))
  show wpAny _ _ (do again (.builtin "list.__iadd__" ⟨[← newList [], .ref l], []⟩)) _ _ s
  refine wpAny_bind (wpAny_newList (wpAny_pure ⟨Code.quiet_builtin _ (by decide +kernel), codeAny_builtin entry_list_iadd' ?_⟩))
  show wpAny _ _ (Builtin.List.listExtendWith (.ref s.heap.objs.size) (.ref l) (.ref s.heap.objs.size)) _ _ { s with heap := s.heap.push (seqObj "list" #[] 0) }
  unfold Builtin.List.listExtendWith
  have ho' : (s.heap.push (seqObj "list" #[] 0)).get? l = some o := Heap.get?_push_of_some _ ho
  refine wpAny_bind (wpAny_typeOf (T := "tuple") ⟨o, ho', hc⟩ ?_)
  have ht : (Value.type "tuple" == Value.type "tuple") = true := by rfl
  rw [if_pos (by rw [ht]; simp)]
  refine wpAny_bind (listItems_at ho' hd (wpAny_bind (listItems_at (xs := #[]) (n := 0) hN rfl ?_)))
  rw [if_neg (by simp)]
  refine wpAny_bind (listUpdate_at (xs := #[]) (n := 0) hN rfl (wpAny_pure ?_) (Nat.zero_le _) (by show (#[] ++ vs.toArray).size ≤ sizeLine + 1; simp only [Array.size_append, List.size_toArray, List.length_nil]; omega))
  show wpAny (model prog w) A (do
      let o ← load s.heap.objs.size
      match o.data with
      | .seq xs _ => pure xs.toList
      | _ => unsupported "internal:collect") Q E { s with heap := (s.heap.push (seqObj "list" #[] 0)).update s.heap.objs.size (Obj.mapSeq (· ++ vs.toArray)) }
  refine wpAny_bind (wpAny_load (get?_update_seq hN _) ?_)
  show wpAny _ _ (pure ((#[] : Array Value) ++ vs.toArray).toList) Q E _
  rw [show ((#[] : Array Value) ++ vs.toArray).toList = vs by simp]
  exact wpAny_pure h
theorem sorted_tup {l : Addr} {vs : List Value} {ns : List Int} {Q : Value → Shared → Prop} (hl : s.heap.IsTuple l vs.toArray) (hI : IntsAre vs ns) (hz : vs.length ≤ sizeLine)
    (h : ∀ (out : Array Value) (ns' : List Int), IntsAre out.toList ns' → ns'.Perm ns → ns'.Pairwise (· ≤ ·) → Q (.ref (s.heap.objs.size + 1)) { s with heap := sortedAll s.heap vs out }) :
    wpAny (model prog w) A (call (.builtin "sorted") [.ref l]) Q E s := by
  refine Calls.call_function_entry kind_sorted plain_sorted entry_sorted (args_sorted1 _) ?_
  unfold Builtin.«sorted»
  refine wpAny_bind (m := checkCount "sorted" 1 1 _) (wpAny_pure (wpAny_bind (walk_tup hl hz (wpAny_bind (wpAny_newList ?_ hz)))))
  have hsz : ((s.heap.push (seqObj "list" #[] 0)).update s.heap.objs.size (Obj.mapSeq (· ++ vs.toArray))).objs.size = s.heap.objs.size + 1 := by
    rw [Heap.size_update, size_push']
  have hoL : (((s.heap.push (seqObj "list" #[] 0)).update s.heap.objs.size (Obj.mapSeq (· ++ vs.toArray))).push (seqObj "list" vs.toArray 0)).get? (s.heap.objs.size + 1) = some (seqObj "list" vs.toArray 0) := by
    rw [← hsz]; exact Heap.get?_push_size _ rfl
  show wpAny _ _ _ _ _ { s with heap := ((s.heap.push (seqObj "list" #[] 0)).update s.heap.objs.size (Obj.mapSeq (· ++ vs.toArray))).push (seqObj "list" vs.toArray 0) }
  rw [hsz]
  refine wpAny_bind (wpAny_holding (wpAny_call_entry slot_list_sort ⟨_, hoL, rfl⟩ entry_list_sort (list_sort_treeAny hoL hI hz fun out ns' a1 a2 a3 => ⟨_, rfl, wpAny_pure ⟨_, rfl, h out ns' a1 a2 a3⟩⟩) (args_list_sort _)))
end
end DvS
namespace Dv
open PySem PySem.Spec PyProof.Rows L2
variable [TabC]

def rSortedTup (K : PySem.W.Frag) : List V → Hp → VK → Prop := fun vs H Q => ∃ (a : Addr) (ns : List Int), vs = [V.ref a] ∧ SqT K H a (ns.map V.int) ∧
  ∀ (ns' : List Int) (p : Addr), ns'.Perm ns → ns'.Pairwise (· ≤ ·) → H p = none → Q (.ref p) (upd H p (.lst (ns'.map V.int)))
theorem cr_sortedTup {X : L2.Cx} : CallR X (.builtin "sorted") (rSortedTup X.K) := by
  intro pins s σ H vs us Q I r h
  obtain ⟨a, ns, rfl, hs, q⟩ := h
  obtain ⟨its, rv, hl, hz⟩ := I.tuple hs
  rw [Vals.ref1 r]
  have hi := rv.ints
  refine DvS.sorted_tup hl hi (by rw [← rv.length]; exact hz) fun out ns' h1 h2 h3 => ?_
  obtain ⟨ep, he'⟩ := PyProof.Rows.sortedAll_at s.heap its out
  have hlen : (ns'.map V.int).length ≤ sizeLine := by
    rw [List.length_map, h2.length_eq]
    rw [List.length_map] at hz
    exact hz
  exact ⟨.ref _, upd H (s.heap.objs.size + 1) (.lst (ns'.map V.int)), I.laid (t' := s.toks) (fun _ _ => PyProof.Rows.sortedAll_old) (Nat.le_succ _) ⟨hlen, out.toList, ep, vals_of_ints h1, he'⟩, rfl, q _ _ h2 h3 (I.hok.fresh (Nat.le_succ _))⟩
/-- min of alike data -/
def rMinD (K : PySem.W.Frag) : List V → Hp → VK → Prop := fun vs H Q => ∃ (a : Addr) (ws : List V) (d : PyData) (ds : List PyData), vs = [V.ref a] ∧ SqL K H a ws ∧ DpAll K H ws (d :: ds) ∧ PySem.W.AlikeAll (d :: ds) ∧ PyData.depthAll (d :: ds) ≤ 100 ∧
  ∀ (i : Nat) (v : V), ws[i]? = some v → (d :: ds)[i]? = some (PySem.W.minD d ds) → Q v H
theorem cr_minD {X : L2.Cx} {k : Nat} (hr : Room k X.A) : CallR X (.builtin "min") (rMinD X.K) := by
  intro pins s σ H vs us Q I r h
  obtain ⟨a, ws, d, ds, rfl, hs, hd, ha, hdep, q⟩ := h
  obtain ⟨its, rv, hl, hz⟩ := I.list hs
  rw [Vals.ref1 r]
  obtain ⟨as, ra⟩ := Dp.readsAll I (d :: ds) ws its hd rv
  refine PySem.W.min_list_data (vs := its.toArray) hr.hd hl.isList (by simpa using ra) ha (by have := hr.un; omega) fun i v h' tk bs e rr kp => ?_
  have e' : its[i]? = some v := by simpa using e
  have hi : i < ws.length := by
    rw [rv.length]
    by_cases hi : i < its.length
    · exact hi
    · rw [List.getElem?_eq_none (by omega)] at e'; cases e'
  obtain ⟨u, e2, r2⟩ := rv.get (List.getElem?_eq_getElem hi)
  rw [e'] at e2
  cases e2
  obtain ⟨bs', r3, hlt, _, _⟩ := PySem.W.readsAll_atA (vs := its.toArray) (by simpa using ra) i v e
  have e3 := (PySem.Reads.unique (PySem.W.reads_keeps kp r3) _ _ rr).1
  refine ⟨_, H, I.kept kp, r2, q i _ (List.getElem?_eq_getElem hi) ?_⟩
  rw [← e3, List.getD_eq_getElem?_getD]
  rw [List.getElem?_eq_getElem hlt]
  rfl
end Dv

set_option Elab.async false
set_option linter.all false
set_option maxRecDepth 100000
set_option maxHeartbeats 1000000
/-! sorted of rows (i, "leave", p) and (i, "wish", (p, ..)) -/
namespace Dv
open PySem
/-- such a row: the number, whether its third part is a tuple, that part -/
inductive Dd where
  | leave (h p : Int)
  | wish (h : Int) (ps : List Int)
deriving DecidableEq
def ddD : Dd → PyData
  | .leave h p => .tuple [.int h, .str "leave", .int p]
  | .wish h ps => .tuple [.int h, .str "wish", .tuple (ps.map .int)]
def ddH : Dd → Int
  | .leave h _ => h
  | .wish h _ => h
def ddKey : Dd → List Int
  | .leave h p => [h, 0, p]
  | .wish h ps => h :: 1 :: ps
/-- in Python's order -/
def ddLt (a b : Dd) : Bool := PySem.W.listLt (ddKey a) (ddKey b)
theorem map_inj {xs ys : List Int} (h : xs.map PyData.int = ys.map PyData.int) : xs = ys := by
  induction xs generalizing ys with
  | nil => cases ys with | nil => rfl | cons y ys => cases h
  | cons x xs ih =>
    cases ys with
    | nil => cases h
    | cons y ys =>
      simp only [List.map_cons, List.cons.injEq, PyData.int.injEq] at h
      rw [h.1, ih h.2]
theorem ddD_inj {a b : Dd} (h : ddD a = ddD b) : a = b := by
  cases a with
  | leave i p =>
    cases b with
    | leave j q =>
      simp only [ddD, PyData.tuple.injEq, List.cons.injEq, PyData.int.injEq, and_true, true_and] at h
      rw [h.1, h.2]
    | wish j q => simp [ddD] at h
  | wish i p =>
    cases b with
    | leave j q => simp [ddD] at h
    | wish j q =>
      simp only [ddD, PyData.tuple.injEq, List.cons.injEq, PyData.int.injEq, and_true, true_and] at h
      rw [h.1, map_inj h.2]
end Dv
namespace DvS
open PySem PySem.W PySem.Calls PyProof.Rows Srt SrtO Dv
theorem alike_i (i j : Int) : alike (.int i) (.int j) = true := by simp [alike]
theorem alike_s (x y : Str) : alike (.str x) (.str y) = true := by simp [alike]
theorem alike_t (xs ys : List Int) : alike (.tuple (xs.map .int)) (.tuple (ys.map .int)) = true := by
  simp only [alike]; exact alike_ints xs ys
theorem eqv_i (i j : Int) : PyData.eqv (.int i) (.int j) = decide (i = j) := by simp only [PyData.eqv]; rfl
theorem eqv_t (xs ys : List Int) : PyData.eqv (.tuple (xs.map .int)) (.tuple (ys.map .int)) = decide (xs = ys) := by
  have h : ∀ xs ys : List Int, PyData.eqvAll (xs.map PyData.int) (ys.map PyData.int) = decide (xs = ys) := fun xs => by
    induction xs with
    | nil => intro ys; cases ys <;> simp [PyData.eqvAll]
    | cons n ns ih =>
      intro ms
      cases ms with
      | nil => simp [PyData.eqvAll]
      | cons m ms =>
        simp only [List.map_cons, PyData.eqvAll, eqv_i, ih, List.cons.injEq, Bool.decide_and]
        try rfl
  simp only [PyData.eqv]
  exact h xs ys
theorem lt_ints : ∀ xs ys : List Int, dataLt (.tuple (xs.map .int)) (.tuple (ys.map .int)) = listLt xs ys := fun xs ys => (dataLt_tuple _ _).trans (lexAll_map (α := Int) xs ys)
theorem lw : PyData.eqv (.str "leave") (.str "wish") = false := by decide +kernel
theorem wl : PyData.eqv (.str "wish") (.str "leave") = false := by decide +kernel
theorem ww : PyData.eqv (.str "wish") (.str "wish") = true := by decide +kernel
theorem ll : PyData.eqv (.str "leave") (.str "leave") = true := by decide +kernel
theorem lw_lt : dataLt (.str "leave") (.str "wish") = true := by rw [dataLt_str]; decide +kernel
theorem wl_lt : dataLt (.str "wish") (.str "leave") = false := by rw [dataLt_str]; decide +kernel
theorem key_cons (h j : Int) (xs ys : List Int) : listLt (h :: xs) (j :: ys) = if h = j then listLt xs ys else decide (h < j) := by simp only [listLt]; rfl
/-- the order of the rows, told by their parts -/
theorem dd_lt (a b : Dd) : dataLt (ddD a) (ddD b) = ddLt a b := by
  unfold ddLt
  have head : ∀ (h j : Int) (xs ys : List PyData) (k l : List Int), lexLt itemOrd (keyToksAll xs) (keyToksAll ys) = listLt k l → dataLt (.tuple (.int h :: xs)) (.tuple (.int j :: ys)) = listLt (h :: k) (j :: l) := fun h j xs ys k l e => by
    rw [dataLt_tuple, key_cons]
    by_cases z : h = j
    · rw [if_pos z, dataLt_all_yes (alike_i h j) (by rw [eqv_i]; exact decide_eq_true z)]
      exact e
    · rw [if_neg z, dataLt_all_no (alike_i h j) (by rw [eqv_i]; exact decide_eq_false z)]
      exact dataLt_int h j
  cases a with
  | leave h p =>
    cases b with
    | leave j q =>
      refine head h j _ _ _ _ ?_
      rw [dataLt_all_yes (alike_s _ _) ll, key_cons, if_pos rfl]
      exact lexAll_map (α := Int) [p] [q]
    | wish j q =>
      refine head h j _ _ _ _ ?_
      rw [dataLt_all_no (alike_s _ _) lw, key_cons, if_neg (by decide)]
      exact lw_lt
  | wish h p =>
    cases b with
    | leave j q =>
      refine head h j _ _ _ _ ?_
      rw [dataLt_all_no (alike_s _ _) wl, key_cons, if_neg (by decide)]
      exact wl_lt
    | wish j q =>
      refine head h j _ _ _ _ ?_
      rw [dataLt_all_yes (alike_s _ _) ww, key_cons, if_pos rfl]
      have e := lt_ints p q
      by_cases z : p = q
      · subst z
        rw [dataLt_all_yes (alike_t p p) (by rw [eqv_t]; exact decide_eq_true rfl), lex_irrefl]
        exact (dataLt_self _).symm.trans e
      · rw [dataLt_all_no (alike_t p q) (by rw [eqv_t]; exact decide_eq_false z)]
        exact e
/-! what is needed to sort them -/
theorem dd_depth (a : Dd) : (ddD a).depth ≤ 3 := by
  cases a with
  | leave h p => simp [ddD, PyData.depth, PyData.depthAll]
  | wish h ps =>
    have : PyData.depthAll (ps.map .int) = 0 := depth_ints ps
    simp [ddD, PyData.depth, PyData.depthAll, this]
/-- the kind of keys that they make in a heap -/
noncomputable def ddKind (h : Heap) : KeyKind where
  toKeyOrd := listOrd itemOrd
  keyOf v := open Classical in if q : ∃ d as, Reads h v (ddD d) as then some (keyToks (ddD q.choose)) else none
  dflt := ([] : List (Int ⊕ List Nat))
theorem ddKind_some {h : Heap} {v : Value} {d : Dd} {as : List Addr} (r : Reads h v (ddD d) as) : (ddKind h).keyOf v = some (keyToks (ddD d)) := by
  have q : ∃ d as, Reads h v (ddD d) as := ⟨d, as, r⟩
  have e : (ddKind h).keyOf v = some (keyToks (ddD q.choose)) := by
    show (open Classical in if q : ∃ d as, Reads h v (ddD d) as then some (keyToks (ddD q.choose)) else none) = _
    rw [dif_pos q]
  obtain ⟨as', h2⟩ := q.choose_spec
  rw [e, ddD_inj (PySem.Reads.unique h2 _ _ r).1]
theorem ddKind_inv {h : Heap} {v : Value} {k : List (Int ⊕ List Nat)} (e : (ddKind h).keyOf v = some k) : ∃ d as, Reads h v (ddD d) as ∧ k = keyToks (ddD d) := by
  by_cases q : ∃ d as, Reads h v (ddD d) as
  · obtain ⟨as', h2⟩ := q.choose_spec
    have e' := ddKind_some h2
    rw [e] at e'
    exact ⟨_, as', h2, Option.some.inj e'⟩
  · have e' : (ddKind h).keyOf v = none := by
      show (open Classical in if q : ∃ d as, Reads h v (ddD d) as then some (keyToks (ddD q.choose)) else none) = _
      rw [dif_neg q]
      rfl
    rw [e'] at e
    cases e
section
variable {prog : Program} {w : World} {A : Around} {s : Shared}
/-- parts compared one behind the other -/
theorem lex3 {b fin : Bool} {Q : Bool → Shared → Prop} {i : Nat} {x y : PyData} {xs ys : List PyData} {vs ws : List Value} {as bs : List Addr} (ra : ReadsAll s.heap vs (x :: xs) as) (rb : ReadsAll s.heap ws (y :: ys) bs) (ha : alike x y = true) (hn : x ≠ .none) (hu : A.units + min x.depth y.depth < cLine)
    (hb : (b && i == 0) = true → ∀ t, x ≠ .tuple t) (hq : Q (lexLt itemOrd (keyToksAll (x :: xs)) (keyToksAll (y :: ys))) s)
    (go : ∀ vs' ws' as' bs', ReadsAll s.heap vs' xs as' → ReadsAll s.heap ws' ys bs' → PyData.eqv x y = true → Q (lexLt itemOrd (keyToksAll xs) (keyToksAll ys)) s → KatLex prog w A b fin Q (vs'.zip ws') (i + 1) s) :
    KatLex prog w A b fin Q (vs.zip ws) i s := by
  cases ra with
  | cons r rs =>
    cases rb with
    | cons r' rs' =>
      refine kat_cons (eqAt_alike x y A s _ _ _ _ r r' ha hu prog w _ _ ?_)
      cases hx : PyData.eqv x y with
      | true =>
        rw [dataLt_all_yes ha hx] at hq
        exact kat_yes (go _ _ _ _ rs rs' hx hq)
      | false =>
        rw [dataLt_all_no ha hx] at hq
        exact kat_no (oneLt_alike hb r r' ha hn hu hq)
theorem lex0 {b : Bool} {Q : Bool → Shared → Prop} {i : Nat} {vs ws : List Value} {as bs : List Addr} (ra : ReadsAll s.heap vs [] as) (rb : ReadsAll s.heap ws [] bs) (hq : Q (lexLt itemOrd (keyToksAll []) (keyToksAll [])) s) : KatLex prog w A b false Q (vs.zip ws) i s := by
  cases ra
  cases rb
  rw [lex_irrefl] at hq
  exact kat_nil hq
/-- rows of this kind can be sorted -/
theorem dd_sorts {vs : List Value} {ds : List Dd} (e : EachIs (fun v d => ∃ as, Reads s.heap v (ddD d) as) vs ds) (hu : A.units + 8 < cLine) : SortsAt prog w A s (ddKind s.heap) vs := by
  refine ⟨fun v hv => ?_, tuples' true, ?_, fun h2 E Q hq => ?_⟩
  · obtain ⟨d, _, as, r⟩ := e.left v hv
    exact ⟨_, ddKind_some r⟩
  · intro E x y a b Q ha hb hq
    obtain ⟨d, as, ra, rfl⟩ := ddKind_inv ha
    obtain ⟨d', as', rb, rfl⟩ := ddKind_inv hb
    have hq' : Q (dataLt (ddD d) (ddD d')) s := hq
    have go : ∀ (h j : Int) (wd wd' : Str) (x y : PyData) (vx vy : Value) (as bs : List Addr), Reads s.heap vx (.tuple [.int h, .str wd, x]) as → Reads s.heap vy (.tuple [.int j, .str wd', y]) bs → (wd = wd' → alike x y = true) → x ≠ .none → x.depth ≤ 3 →
        Q (dataLt (.tuple [.int h, .str wd, x]) (.tuple [.int j, .str wd', y])) s → wpAny (model prog w) A (keyLt' (tuples' true) vx vy) Q E s := fun h j wd wd' x y vx vy as bs ra rb hal hn hd hq => by
      rw [dataLt_tuple] at hq
      cases ra with
      | @tuple l o xs n _ _ h1 h2 h3 h4 =>
        cases rb with
        | @tuple l' o' xs' n' _ _ k1 k2 k3 k4 =>
          have n1 : xs.size = 3 := by simpa using SeqAt.ReadsAll.length _ _ _ h4
          have n2 : xs'.size = 3 := by simpa using SeqAt.ReadsAll.length _ _ _ k4
          refine kat_lt h1 h3 k1 k3 ?_
          rw [n1, n2, show decide (3 < 3) = false from rfl]
          refine lex3 h4 k4 (alike_i h j) (fun z => nomatch z) (by simp [PyData.depth]; omega) (fun _ t z => nomatch z) hq fun v1 w1 a1 b1 r1 s1 _ hq => ?_
          refine lex3 r1 s1 (alike_s wd wd') (fun z => nomatch z) (by simp [PyData.depth]; omega) (fun z => by simp at z) hq fun v2 w2 a2 b2 r2 s2 he hq => ?_
          have hw : wd = wd' := by simpa [PyData.eqv] using he
          refine lex3 r2 s2 (hal hw) hn (by have := Nat.min_le_left x.depth y.depth; omega) (fun z => by simp at z) hq fun v3 w3 a3 b3 r3 s3 _ hq => ?_
          exact lex0 r3 s3 hq
    cases d with
    | leave h p =>
      cases d' with
      | leave j q => exact go _ _ _ _ _ _ _ _ _ _ ra rb (fun _ => alike_i p q) (fun z => nomatch z) (by simp [PyData.depth]) hq'
      | wish j q => exact go _ _ _ _ _ _ _ _ _ _ ra rb (fun z => absurd z (by decide)) (fun z => nomatch z) (by simp [PyData.depth]) hq'
    | wish h p =>
      have dp : (PyData.tuple (p.map .int)).depth ≤ 3 := by
        have : PyData.depthAll (p.map .int) = 0 := depth_ints p
        simp [PyData.depth, this]
      cases d' with
      | leave j q => exact go _ _ _ _ _ _ _ _ _ _ ra rb (fun z => absurd z (by decide)) (fun z => nomatch z) dp hq'
      | wish j q => exact go _ _ _ _ _ _ _ _ _ _ ra rb (fun _ => alike_t p q) (fun z => nomatch z) dp hq'
  · have e' : EachIs (fun v d => ∃ as, Reads s.heap v d as) vs (ds.map ddD) := each_map (R := fun v d => ∃ as, Reads s.heap v d as) ddD e
    have ht : ∀ d, d ∈ ds.map ddD → ∃ i r, d = .tuple (.int i :: r) := fun d hd => by
      obtain ⟨c, _, rfl⟩ := List.mem_map.mp hd
      cases c <;> exact ⟨_, _, rfl⟩
    obtain ⟨fs, t1, t2, t3⟩ := each_katTups e' fun d hd => by
      obtain ⟨i, r, z⟩ := ht d hd
      exact ⟨_, _, z⟩
    refine kat_kind (T := .type "int") t1 (by omega) (fun f hf => ?_) (by decide) ?_
    · obtain ⟨x, r, as, m1, m2⟩ := t3 f hf
      obtain ⟨i, r', z⟩ := ht _ m1
      simp only [PyData.tuple.injEq, List.cons.injEq] at z
      rw [z.1] at m2
      exact looks_reads m2
    · exact hq
end
end DvS
namespace DvS
open PySem PySem.W PySem.Calls PyProof.Rows Srt SrtO Dv
section
variable {prog : Program} {w : World} {A : Around} {E : Value → Shared → Prop} {s : Shared} {κ : PyProof.Rows.KeyKind}
theorem sorted_vals_tup {l : Addr} {vs : List Value} {Q : Value → Shared → Prop} (hl : s.heap.IsTuple l vs.toArray) (S : SortsAt prog w A.in1.in1 { s with heap := sortingHeap (copyHeap s.heap vs) (s.heap.objs.size + 1) vs } κ vs) (hL : vs.length ≤ sizeLine)
    (h : Q (.ref (s.heap.objs.size + 1)) { s with heap := sortedAll s.heap vs (sortVals κ false vs vs).toArray }) : wpAny (model prog w) A (call (.builtin "sorted") [.ref l]) Q E s := by
  refine Calls.call_function_entry kind_sorted plain_sorted entry_sorted (args_sorted1 _) ?_
  unfold Builtin.«sorted»
  refine wpAny_bind (m := checkCount "sorted" 1 1 _) (wpAny_pure (wpAny_bind (walk_tup hl hL (wpAny_bind (wpAny_newList ?_ hL)))))
  have hsz : ((s.heap.push (seqObj "list" #[] 0)).update s.heap.objs.size (Obj.mapSeq (· ++ vs.toArray))).objs.size = s.heap.objs.size + 1 := by
    rw [Heap.size_update, size_push']
  show wpAny _ _ _ _ _ { s with heap := copyHeap s.heap vs }
  rw [hsz]
  exact wpAny_bind (wpAny_holding (wpAny_call_entry slot_list_sort ⟨_, copyHeap_at s.heap vs, rfl⟩ entry_list_sort (list_sort_vals (s := { s with heap := copyHeap s.heap vs }) (copyHeap_at s.heap vs) S hL ⟨_, rfl, wpAny_pure ⟨_, rfl, h⟩⟩) (args_list_sort _)))
end
end DvS
namespace Dv
open PySem PySem.Spec PySem.W PyProof.Rows L2 DvS
def dsort (ds : List Dd) : List Dd := ds.mergeSort fun a b => !ddLt b a
theorem le_eq : PySem.W.sortLe (listOrd itemOrd) false (fun d : Dd => keyToks (ddD d)) = fun a b => !ddLt b a := by
  funext a b
  have e : PySem.W.sortLe (listOrd itemOrd) false (fun d : Dd => keyToks (ddD d)) a b = !dataLt (ddD b) (ddD a) := rfl
  rw [e, dd_lt]
/-- sorted(x), x a list or a tuple of such rows -/
def rSortDd (K : PySem.W.Frag) : List V → Hp → VK → Prop := fun vs H Q => ∃ (a : Addr) (ws : List V) (ds : List Dd) (R : V → Dd → Prop), vs = [V.ref a] ∧ (SqL K H a ws ∨ SqT K H a ws) ∧ EachIs R ws ds ∧ (∀ x d, R x d → Dp K H x (ddD d)) ∧
  ∀ ws' p, EachIs R ws' (dsort ds) → H p = none → Q (.ref p) (upd H p (.lst ws'))
theorem each_vals {R : V → Dd → Prop} : ∀ {ws : List V} {us : List Value} {ds : List Dd}, Vals ws us → EachIs R ws ds → EachIs (fun v d => ∃ x, RelV x v ∧ R x d) us ds
  | _, _, _, .nil, .nil => .nil
  | _, _, _, .cons r t, .cons h e => .cons ⟨_, r, h⟩ (each_vals t e)
theorem vals_each {R : V → Dd → Prop} : ∀ {us : List Value} {ds : List Dd}, EachIs (fun v d => ∃ x, RelV x v ∧ R x d) us ds → ∃ ws : List V, Vals ws us ∧ EachIs R ws ds
  | _, _, .nil => ⟨[], .nil, .nil⟩
  | _, _, .cons ⟨x, r, h⟩ e => by
    obtain ⟨ws, h1, h2⟩ := vals_each e
    exact ⟨x :: ws, .cons r h1, .cons h h2⟩
theorem cr_sortDd {X : L2.Cx} (hu : X.A.units + 64 < cLine) : CallR X (.builtin "sorted") (rSortDd X.K) := by
  intro pins s σ H vs us Q I r h
  obtain ⟨a, ws, ds, R, rfl, hs, e, hd, q⟩ := h
  rw [Vals.ref1 r]
  have go : ∀ its : List Value, Vals ws its → its.length ≤ sizeLine → (∀ Q' : Value → Shared → Prop, SortsAt X.prog X.w X.A.in1.in1 { s with heap := sortingHeap (copyHeap s.heap its) (s.heap.objs.size + 1) its } (ddKind (sortingHeap (copyHeap s.heap its) (s.heap.objs.size + 1) its)) its →
      Q' (.ref (s.heap.objs.size + 1)) { s with heap := sortedAll s.heap its (sortVals (ddKind (sortingHeap (copyHeap s.heap its) (s.heap.objs.size + 1) its)) false its its).toArray } → wpAny (model X.prog X.w) X.A (call (.builtin "sorted") [.ref a]) Q' (fun _ _ => False) s) →
      wpAny (model X.prog X.w) X.A (call (.builtin "sorted") [.ref a]) (EP X pins σ Q) (fun _ _ => False) s := fun its rv hz raw => by
    have e1 := each_vals rv e
    have e2 : EachIs (fun v d => ∃ as, Reads (sortingHeap (copyHeap s.heap its) (s.heap.objs.size + 1) its) v (ddD d) as) its ds := e1.mono fun v d ⟨x, rx, hx⟩ => by
      obtain ⟨as, r1⟩ := Dp.reads I (ddD d) x v (hd x d hx) rx
      exact ⟨as, PyProof.Rows.Reads.keeps (fun _ _ => sorting_copy_old) r1⟩
    refine raw _ (dd_sorts (s := { s with heap := sortingHeap (copyHeap s.heap its) (s.heap.objs.size + 1) its }) e2 (by show X.A.units + 1 + 1 + 8 < cLine; omega)) ?_
    have e3 := sortVals_each (κ := ddKind (sortingHeap (copyHeap s.heap its) (s.heap.objs.size + 1) its)) (rev := false) (fun d => keyToks (ddD d)) e1 (e2.mono fun v d ⟨as, r1⟩ => ddKind_some r1)
    rw [show PySem.W.sortLe (ddKind (sortingHeap (copyHeap s.heap its) (s.heap.objs.size + 1) its)).toKeyOrd false (fun d => keyToks (ddD d)) = _ from le_eq] at e3
    obtain ⟨ws', v1, v2⟩ := vals_each e3
    obtain ⟨ep, he'⟩ := PyProof.Rows.sortedAll_at s.heap its (sortVals (ddKind (sortingHeap (copyHeap s.heap its) (s.heap.objs.size + 1) its)) false its its).toArray
    have hlen : ws'.length ≤ sizeLine := by
      rw [v1.length, sortVals_length false rfl]
      exact hz
    exact ⟨.ref _, upd H (s.heap.objs.size + 1) (.lst ws'), I.laid (t' := s.toks) (fun _ _ => PyProof.Rows.sortedAll_old) (Nat.le_succ _) ⟨hlen, _, ep, v1, he'⟩, rfl, q _ _ v2 (I.hok.fresh (Nat.le_succ _))⟩
  rcases hs with hs | hs
  · obtain ⟨its, rv, hl, hz⟩ := I.list hs
    refine wpAny_mono (go its rv (by rw [← rv.length]; exact hz) fun Q' S h => sorted_vals hl.isList S (by rw [← rv.length]; exact hz) h) (fun _ _ h => h) (fun _ _ h => h.elim)
  · obtain ⟨its, rv, hl, hz⟩ := I.tuple hs
    refine wpAny_mono (go its rv (by rw [← rv.length]; exact hz) fun Q' S h => sorted_vals_tup hl S (by rw [← rv.length]; exact hz) h) (fun _ _ h => h) (fun _ _ h => h.elim)
end Dv

set_option Elab.async false
set_option linter.all false
set_option maxRecDepth 100000
set_option maxHeartbeats 1000000
/-! sum(x, t), x a list of tuples, t a tuple -/
namespace DvS
open PySem PySem.Spec PyProof.Rows L2 Dv
open PySem.Sem (wp)
theorem args_sum2 (a b : Value) : argsOk "sum" ⟨[a, b], []⟩ := by unfold argsOk; kernel_rfl
theorem sub_tup_str : isSubtype (.type "tuple") (.type "str") = pure false := by rw [isSubtype_type]; kernel_rfl
theorem sub_tup_bytes : isSubtype (.type "tuple") (.type "bytes") = pure false := by rw [isSubtype_type]; kernel_rfl
theorem sub_tup_barr : isSubtype (.type "tuple") (.type "bytearray") = pure false := by rw [isSubtype_type]; kernel_rfl
/-- the list that holds what has been added so far -/
abbrev accO (v : Value) (c : Nat) : Obj := { cls := .type "list", dict := none, data := .seq #[v] c, slots := #[] }
/-- what has been added so far, behind i tuples: an old one, or a new one that holds just that -/
structure Far (h0 h : Heap) (t0 : Addr) (bs : Nat → Addr) (its : Nat → List Value) (u0 : List Value) (i : Nat) (a : Addr) : Prop where
  is : h.IsTuple a (u0 ++ ((List.range i).map its).flatten).toArray
  from_ : (a = t0 ∧ u0 ++ ((List.range i).map its).flatten = u0) ∨ (∃ j, j < i ∧ a = bs j ∧ u0 ++ ((List.range i).map its).flatten = its j) ∨ (h0.objs.size ≤ a ∧ h.get? a = some (tupO (u0 ++ ((List.range i).map its).flatten)))
section
variable {prog : Program} {w : World} {A : Around} {R : Result → Shared → Prop} {I : Addr} {fp wr : List Addr} {G : Array GenState → Array GenState → Prop} {n : Nat} {P : Nat → Value → Prop} {St : Nat → Shared → Prop}
theorem range_step (its : Nat → List Value) (u0 : List Value) (i : Nat) : u0 ++ ((List.range (i + 1)).map its).flatten = (u0 ++ ((List.range i).map its).flatten) ++ its i := by
  rw [List.range_succ, List.map_append, List.flatten_append]
  simp
theorem sum_tup_loop (W : WalksS prog w A.in1 I fp wr G n P St) (h0 : Heap) (t0 : Addr) (bs : Nat → Addr) (its : Nat → List Value) (u0 : List Value) (hval : ∀ i v, P i v → v = .ref (bs i)) (S : Addr) (hSf : S ∉ fp) (hS0 : h0.objs.size ≤ S) (hw0 : ∀ b ∈ wr, h0.objs.size ≤ b) (hwS : ∀ b ∈ wr, b < S) (ht : ∀ i, i < n → h0.IsTuple (bs i) (its i).toArray)
    (hlen : (u0 ++ ((List.range n).map its).flatten).length ≤ sizeLine) :
    ∀ (k i : Nat) (s : Shared) (a : Addr) (c : Nat), n - i = k → i ≤ n → St i s → s.heap.get? S = some (accO (.ref a) c) → (∀ b o, h0.get? b = some o → s.heap.get? b = some o) → a ≠ S → a ∉ wr → Far h0 s.heap t0 bs its u0 i a →
    (∀ s' a', Moved (S :: wr) G s s' → Far h0 s'.heap t0 bs its u0 n a' → R (.ok (.ret (.ref a'))) s') → codeAny (model prog w) A (.builtin "sum.loop" ⟨[.ref I, .ref S, rawInt 2, rawInt 0], []⟩) R s := by
  have hSw : S ∉ wr := fun h => hSf (W.sub _ h)
  have hsub : ∀ b ∈ wr, b ∈ S :: wr := fun b hb => List.mem_cons_of_mem _ hb
  have far_at : ∀ {h h' : Heap} {i : Nat} {a : Addr}, Far h0 h t0 bs its u0 i a → (∀ o, h.get? a = some o → h'.get? a = some o) → Far h0 h' t0 bs its u0 i a := fun {h h' i a} Fa k =>
    ⟨Fa.is.at k, Fa.from_.imp id fun z => z.imp id fun ⟨z1, z2⟩ => ⟨z1, k _ z2⟩⟩
  intro k
  induction k with
  | zero =>
    intro i s a c hk hi hst hS hold hne hnw Fa hR
    have hin : i = n := by omega
    subst hin
    refine codeAny_builtin F.entry_sum_loop ?_
    rw [Around.under_plainId F.plain_sum_loop _]
    show wpAny _ A.in1 (seqItems? (.ref S) >>= _) _ _ s
    refine wpAny_bind (wpAny_seqItems hS rfl ?_)
    show wpAny _ A.in1 (tryCatch (pyNext (.ref I)) _ >>= _) _ _ s
    refine wpAny_bind (wpAny_tryCatch (W.done s _ _ hst fun s' hm => ?_))
    exact wpAny_pure (hR s' a (hm.mono hsub) (far_at Fa fun o e => hm.heap a o hnw e))
  | succ k ih =>
    intro i s a c hk hi hst hS hold hne hnw Fa hR
    have hlt : i < n := by omega
    refine codeAny_builtin F.entry_sum_loop ?_
    rw [Around.under_plainId F.plain_sum_loop _]
    show wpAny _ A.in1 (seqItems? (.ref S) >>= _) _ _ s
    refine wpAny_bind (wpAny_seqItems hS rfl ?_)
    show wpAny _ A.in1 (tryCatch (pyNext (.ref I)) _ >>= _) _ _ s
    refine wpAny_bind (wpAny_tryCatch (W.item i s _ _ hlt hst fun v s' hP hst' hm => ?_))
    rw [hval i v hP]
    have hS' := hm.heap S _ hSw hS
    have Fb := far_at Fa fun o e => hm.heap a o hnw e
    have hold' : ∀ b o, h0.get? b = some o → s'.heap.get? b = some o := fun b o e => hm.heap b o (fun z => absurd (Heap.lt_size e) (Nat.not_lt.mpr (hw0 b z))) (hold b o e)
    have hb := (ht i hlt).at fun o e => hold' _ o e
    have hbn : bs i < h0.objs.size := by
      obtain ⟨o, ho, _⟩ := ht i hlt
      exact Heap.lt_size ho
    have hsz0 : h0.objs.size ≤ s'.heap.objs.size := Nat.le_of_lt (Nat.lt_of_le_of_lt hS0 (Heap.lt_size hS'))
    have hl1 : (u0 ++ ((List.range (i + 1)).map its).flatten).length ≤ sizeLine := by
      refine Nat.le_trans ?_ hlen
      rw [List.length_append, List.length_append]
      refine Nat.add_le_add_left ?_ _
      obtain ⟨m, rfl⟩ : ∃ m, n = (i + 1) + m := ⟨n - (i + 1), by omega⟩
      have er : List.range (i + 1 + m) = List.range (i + 1) ++ (List.range m).map fun x => i + 1 + x := by rw [List.range_add]
      rw [er, List.map_append, List.flatten_append, List.length_append]
      exact Nat.le_add_right _ _
    have add : wpAny (model prog w) A.in1 (binaryOp .Add (.ref a) (.ref (bs i))) (fun r s1 => ∃ h1 a1, r = .ref a1 ∧ s1 = { s' with heap := h1 } ∧ (∀ b o, s'.heap.get? b = some o → h1.get? b = some o) ∧ a1 ≠ S ∧ a1 ∉ wr ∧ Far h0 h1 t0 bs its u0 (i + 1) a1) (fun _ _ => False) s' := by
      have e1 := range_step its u0 i
      have Fi := Fb.is
      have Ff := Fb.from_
      generalize hacc : u0 ++ ((List.range i).map its).flatten = acc at e1 Fi Ff
      have hcat : acc.length + (its i).length ≤ sizeLine := by rw [e1, List.length_append] at hl1; exact hl1
      by_cases z : acc = []
      · subst z
        refine cat_tup0 (ws := its i) Fi hb ⟨s'.heap, bs i, rfl, rfl, fun _ _ e => e, Nat.ne_of_lt (Nat.lt_of_lt_of_le hbn hS0), fun z => absurd hbn (Nat.not_lt.mpr (hw0 _ z)), ?_, ?_⟩
        · rw [e1, List.nil_append]; exact hb
        · exact .inr (.inl ⟨i, Nat.lt_succ_self i, rfl, by rw [e1, List.nil_append]⟩)
      · refine HT.cat_tup Fi hb z (fun e => ?_) (fun e => ?_) hcat
        · refine ⟨s'.heap, a, rfl, rfl, fun _ _ e => e, hne, hnw, ?_, ?_⟩
          · rw [e1, e, List.append_nil]; exact Fi
          · rw [e1, e, List.append_nil]
            rcases Ff with ⟨z1, z2⟩ | ⟨j, hj, z1, z2⟩ | z1
            · exact .inl ⟨z1, z2⟩
            · exact .inr (.inl ⟨j, Nat.lt_succ_of_lt hj, z1, z2⟩)
            · exact .inr (.inr z1)
        · have new : (s'.heap.push (tupO (acc ++ its i))).get? s'.heap.objs.size = some (tupO (acc ++ its i)) := Heap.get?_push_size _ rfl
          refine ⟨s'.heap.push (tupO (acc ++ its i)), s'.heap.objs.size, rfl, rfl, fun b o e => Heap.get?_push_of_some _ e, fun z => ?_, fun z => ?_, ?_, ?_⟩
          · exact absurd (Heap.lt_size hS') (by rw [z]; exact Nat.lt_irrefl _)
          · exact absurd (Nat.lt_trans (hwS _ z) (Heap.lt_size hS')) (Nat.lt_irrefl _)
          · rw [e1]; exact ⟨_, new, rfl, _, rfl⟩
          · exact .inr (.inr ⟨hsz0, by rw [e1]; exact new⟩)
    show wpAny _ A.in1 ((holding [Value.ref (bs i)] (binaryOp .Add (.ref a) (.ref (bs i)))).attempt >>= _) _ _ _
    refine wpAny_bind (wpAny_attempt (wpAny_holding (wpAny_mono add (fun r s1 hr => ?_) (fun _ _ e => e.elim))))
    obtain ⟨h1, a1, rfl, rfl, kp, na, nw, Fc⟩ := hr
    have hS1 := kp S _ hS'
    show wpAny _ A.in1 (updateSeq S (fun _ => #[.ref a1]) >>= _) _ _ _
    refine wpAny_bind (wpAny_updateSeq hS1 rfl ?_)
    have hS₂ := Heap.get?_update_self (Obj.mapSeq fun _ => #[Value.ref a1]) hS1 rfl
    refine wpAny_bind (wpAny_letGo ?_)
    have oth : ∀ b o, b ≠ S → h1.get? b = some o → ((h1.update S (Obj.mapSeq fun _ => #[Value.ref a1])).update S (Obj.mapSeq fun _ => #[Value.ref a1])).get? b = some o := fun b o hb e =>
      (Heap.get?_update_other _ _ (fun h => hb h.symm)).trans ((Heap.get?_update_other _ _ (fun h => hb h.symm)).trans e)
    refine wpAny_bind (wpAny_updateSeq hS₂ rfl (wpAny_pure ⟨plainId_quiet F.plain_sum_loop _, ih (i + 1) _ a1 _ (by omega) hlt (W.frame _ s' _ s'.toks hst' (Nat.le_refl _) fun b hb o e => oth b o (fun h => hSf (by rw [← h]; exact hb)) (kp b o e)) (Heap.get?_update_self _ hS₂ rfl) (fun b o e => ?_) na nw ?_ fun s'' a'' hm'' Fd => ?_⟩))
    · exact oth b o (fun h => by have := Heap.lt_size e; rw [h] at this; exact absurd this (Nat.not_lt.mpr hS0)) (kp b o (hold' b o e))
    · exact far_at Fc fun o e => oth _ o na e
    · refine hR s'' a'' (Moved.trans W.gtrans ((hm.mono hsub).then_heap (Nat.le_refl _) fun b o hb e => ?_) hm'') Fd
      exact oth b o (fun h => hb (by rw [h]; exact List.mem_cons_self)) (kp b o e)
end
section
variable {prog : Program} {w : World} {A : Around} {E : Value → Shared → Prop} {s : Shared}
/-- sum(x, t) -/
theorem sum_tups {l t0 : Addr} (bs : Nat → Addr) (its : Nat → List Value) (n : Nat) (u0 : List Value) {vs : Array Value} {Q : Value → Shared → Prop} (hh : A.handled = none) (hl : s.heap.IsList l vs) (hn : vs.size = n) (hv : ∀ (i : Nat) (v : Value), vs[i]? = some v → v = Value.ref (bs i)) (h0 : s.heap.IsTuple t0 u0.toArray)
    (ht : ∀ i, i < n → s.heap.IsTuple (bs i) (its i).toArray) (hlen : (u0 ++ ((List.range n).map its).flatten).length ≤ sizeLine)
    (h : ∀ h' tk a, (∀ b o, s.heap.get? b = some o → h'.get? b = some o) → Far s.heap h' t0 bs its u0 n a → Q (.ref a) { s with heap := h', toks := tk }) : wpAny (model prog w) A (call (.builtin "sum") [.ref l, .ref t0]) Q E s := by
  refine call_function_tree F.kind_sum F.plain_sum F.entry_sum (args_sum2 _ _) ?_
  unfold Builtin.«sum»
  simp only [List.length_cons, List.length_nil]
  rw [if_neg (by decide)]
  refine wpAny_bind (wpAny_of_eq (show Builtin.Builtins.bindParams "sum" ["start"] 0 { pos := [.ref t0] } = pure [some (.ref t0)] from rfl) ?_)
  obtain ⟨o, ho, _⟩ := id hl
  have hne : l ≠ s.heap.objs.size := Nat.ne_of_lt (Heap.lt_size ho)
  refine wpAny_bind (wpAny_pyIter_list hl ?_)
  let s2 : Shared := { s with heap := s.heap.push { cls := .type "list_iterator", data := .fields #[.ref l, .int 0 0] } }
  have hold : ∀ b o, s.heap.get? b = some o → s2.heap.get? b = some o := fun b o e => Heap.get?_push_of_some _ e
  have W := (Walks.list (prog := prog) (w := w) (A := A.in1) hh s.heap.objs.size l hne vs).toS
  have ti : s2.TypeIs (.ref t0) "tuple" := by
    obtain ⟨o, ho, hc, _⟩ := h0
    exact ⟨o, hold _ _ ho, hc⟩
  refine wpAny_bind (wpAny_pure ?_)
  simp only [List.forIn_cons, List.forIn_nil]
  refine wpAny_bind (wpAny_bind (wpAny_bind (wpAny_isInstance (T := "tuple") (b := false) ti sub_tup_str ?_)))
  simp only [Bool.false_eq_true, if_false]
  refine wpAny_pure (wpAny_bind (wpAny_bind (wpAny_isInstance (T := "tuple") (b := false) ti sub_tup_bytes ?_)))
  simp only [Bool.false_eq_true, if_false]
  refine wpAny_pure (wpAny_bind (wpAny_bind (wpAny_isInstance (T := "tuple") (b := false) ti sub_tup_barr ?_)))
  simp only [Bool.false_eq_true, if_false]
  refine wpAny_pure (wpAny_pure ?_)
  refine wpAny_bind (wpAny_newObj_type ?_)
  have sz2 : s2.heap.objs.size = s.heap.objs.size + 1 := Heap.size_push ..
  have st0 : (s2.heap.push (accO (.ref t0) 0)).IsListIter s.heap.objs.size l 0 ∧ (s2.heap.push (accO (.ref t0) 0)).IsList l vs :=
    ⟨⟨_, Heap.get?_push_of_some _ (Heap.get?_push_size _ rfl), rfl, rfl⟩, (hl.at fun o e => Heap.get?_push_of_some _ (hold _ o e))⟩
  refine wpAny_pure ⟨plainId_quiet F.plain_sum_loop _, sum_tup_loop W s.heap t0 bs its u0 (fun i v hP => hv i v hP) s2.heap.objs.size (fun z => ?_) (by rw [sz2]; exact Nat.le_succ _) (fun b hb => ?_) (fun b hb => ?_) (fun i hi => ht i (by rw [← hn]; exact hi)) (by rw [hn]; exact hlen) n 0 _ t0 0 (by rw [hn]; rfl) (Nat.zero_le _) st0
    (Heap.get?_push_size _ rfl) (fun b o e => Heap.get?_push_of_some _ (hold b o e)) (fun z => ?_) (fun z => ?_) ⟨?_, .inl ⟨rfl, by simp⟩⟩ fun s' a' hm Fa => ?_⟩
  · rcases List.mem_cons.mp z with z | z
    · rw [sz2] at z; exact absurd z (Nat.succ_ne_self _)
    · have := List.mem_singleton.mp z
      rw [sz2] at this
      have h2 := Heap.lt_size ho
      rw [← this] at h2
      exact absurd h2 (Nat.not_lt.mpr (Nat.le_succ _))
  · rw [List.mem_singleton.mp hb]; exact Nat.le_refl _
  · rw [List.mem_singleton.mp hb, sz2]; exact Nat.lt_succ_self _
  · have h2 : t0 < s.heap.objs.size := by
      obtain ⟨o, ho, _⟩ := h0
      exact Heap.lt_size ho
    rw [z, sz2] at h2
    exact absurd h2 (Nat.not_lt.mpr (Nat.le_succ _))
  · have h2 : t0 < s.heap.objs.size := by
      obtain ⟨o, ho, _⟩ := h0
      exact Heap.lt_size ho
    rw [List.mem_singleton.mp z] at h2
    exact absurd h2 (Nat.lt_irrefl _)
  · have : (u0 ++ ((List.range 0).map its).flatten) = u0 := by simp
    rw [this]
    exact h0.at fun o e => Heap.get?_push_of_some _ (hold _ o e)
  · obtain ⟨h', g', d', tk', os'⟩ := s'
    have e1 : g' = s.gens := hm.gens
    have e2 : d' = s.drawn := hm.drawn
    have e3 : os' = s.os := hm.os
    subst e1 e2 e3
    rw [hn] at Fa
    exact h h' tk' a' (fun b o e => hm.heap b o (fun z => by
      have h2 := Heap.lt_size e
      rcases List.mem_cons.mp z with z | z
      · rw [z, sz2] at h2; exact absurd h2 (Nat.not_lt.mpr (Nat.le_succ _))
      · rw [List.mem_singleton.mp z] at h2; exact absurd h2 (Nat.lt_irrefl _)) (Heap.get?_push_of_some _ (hold b o e))) Fa
end
end DvS
namespace Dv
open PySem PySem.Spec PyProof.Rows L2 DvS
/-- sum(x, t): x a list of tuples (xs tells their parts), t an empty tuple; what comes is one of them, or a new tuple -/
def rSumT (K : PySem.W.Frag) : List V → Hp → VK → Prop := fun vs H Q => ∃ (l t : Addr) (ws : List V) (xss : List (List V)), vs = [V.ref l, V.ref t] ∧ SqL K H l ws ∧ SqT K H t [] ∧ ws.length = xss.length ∧ (∀ (i : Nat) (x : V) (xs : List V), ws[i]? = some x → xss[i]? = some xs → ∃ b, x = V.ref b ∧ SqT K H b xs) ∧ xss.flatten.length ≤ sizeLine ∧
  (xss.flatten = [] → Q (.ref t) H) ∧ (∀ (i : Nat) (b : Addr), ws[i]? = some (V.ref b) → xss[i]? = some xss.flatten → Q (.ref b) H) ∧ NewT xss.flatten H Q
theorem mem_flat {α : Type} : ∀ {xss : List (List α)} {j : Nat} {xs : List α}, xss[j]? = some xs → xs.length ≤ xss.flatten.length
  | [], j, xs, h => by simp at h
  | y :: r, 0, xs, h => by
    simp only [List.getElem?_cons_zero, Option.some.injEq] at h
    subst h
    simp
  | y :: r, j + 1, xs, h => by
    have := mem_flat (xss := r) (by simpa using h)
    simp only [List.flatten_cons, List.length_append]
    omega
theorem flat_one {α : Type} : ∀ {xss : List (List α)} {j : Nat} {xs : List α}, xss[j]? = some xs → xss.flatten.length = xs.length → xss.flatten = xs
  | [], j, xs, h, _ => by simp at h
  | y :: r, 0, xs, h, hl => by
    simp only [List.getElem?_cons_zero, Option.some.injEq] at h
    subst h
    simp only [List.flatten_cons, List.length_append] at hl ⊢
    have : r.flatten = [] := List.eq_nil_of_length_eq_zero (by omega)
    rw [this, List.append_nil]
  | y :: r, j + 1, xs, h, hl => by
    have h : r[j]? = some xs := by simpa using h
    have h1 := mem_flat h
    simp only [List.flatten_cons, List.length_append] at hl ⊢
    have : y = [] := List.eq_nil_of_length_eq_zero (by omega)
    rw [this, List.nil_append]
    exact flat_one h (by omega)
theorem cr_sumT {X : L2.Cx} (hc : X.calm = true) : CallR X (.builtin "sum") (rSumT X.K) := by
  intro pins s σ H vs us Q I r h
  obtain ⟨l, t, ws, xss, rfl, hl, ht, hlen, hx, hz, q0, q1, q2⟩ := h
  obtain ⟨u1, u2, rfl, r1, r2⟩ := vals2 r
  obtain rfl : u1 = Value.ref l := r1
  obtain rfl : u2 = Value.ref t := r2
  obtain ⟨its, rv, pl, _⟩ := I.list hl
  obtain ⟨us0, rt, pt, _⟩ := I.tuple ht
  cases rt
  -- the parts as values
  have pick : ∀ i, ∃ (b : Addr) (us : List Value), i < ws.length → (ws[i]? = some (V.ref b) ∧ ∃ xs, xss[i]? = some xs ∧ Vals xs us ∧ s.heap.IsTuple b us.toArray) := fun i => by
    by_cases hi : i < ws.length
    · obtain ⟨b, e, hb⟩ := hx i ws[i] xss[i] (List.getElem?_eq_getElem hi) (List.getElem?_eq_getElem (by omega))
      obtain ⟨us, ru, pu, _⟩ := I.tuple hb
      exact ⟨b, us, fun _ => ⟨by rw [← e]; exact List.getElem?_eq_getElem hi, _, List.getElem?_eq_getElem (by omega), ru, pu⟩⟩
    · exact ⟨0, [], fun z => absurd z hi⟩
  let bs : Nat → Addr := fun i => (pick i).choose
  let ts : Nat → List Value := fun i => (pick i).choose_spec.choose
  have hp : ∀ i, i < ws.length → (ws[i]? = some (V.ref (bs i)) ∧ ∃ xs, xss[i]? = some xs ∧ Vals xs (ts i) ∧ s.heap.IsTuple (bs i) (ts i).toArray) := fun i hi => (pick i).choose_spec.choose_spec hi
  have cat : ∀ m, m ≤ ws.length → Vals (xss.take m).flatten ((List.range m).map ts).flatten := fun m => by
    induction m with
    | zero => intro _; exact .nil
    | succ m ih =>
      intro hm
      obtain ⟨_, xs, e2, ru, _⟩ := hp m (by omega)
      have e3 : (xss.take (m + 1)).flatten = (xss.take m).flatten ++ xs := by
        rw [List.take_add_one, e2]; simp
      have e4 : ((List.range (m + 1)).map ts).flatten = ((List.range m).map ts).flatten ++ ts m := by
        rw [List.range_succ, List.map_append, List.flatten_append]; simp
      rw [e3, e4]
      exact (ih (by omega)).append ru
  have all := cat ws.length (Nat.le_refl _)
  rw [List.take_of_length_le (by omega)] at all
  have szs : its.length = ws.length := rv.length.symm
  refine sum_tups (vs := its.toArray) bs ts ws.length [] (I.ok.hd hc) pl.isList (by rw [List.size_toArray, szs]) (fun i v hv => ?_) pt (fun i hi => (hp i hi).2.choose_spec.2.2) (by rw [List.nil_append, ← all.length]; exact hz) fun h' tk a kp Fa => ?_
  · have hv : its[i]? = some v := by simpa using hv
    have hi : i < ws.length := by
      have := (List.getElem?_eq_some_iff.mp hv).1
      omega
    obtain ⟨u, e5, e6⟩ := rv.get (hp i hi).1
    rw [hv] at e5
    cases e5
    exact e6
  · have J := I.kept (t' := tk) kp
    rcases Fa.from_ with ⟨e, z⟩ | ⟨j, hj, e, z⟩ | ⟨e, z⟩
    · subst e
      rw [List.nil_append] at z
      refine ⟨V.ref a, H, J, rfl, q0 ?_⟩
      have := all.length
      rw [z] at this
      exact List.eq_nil_of_length_eq_zero this
    · subst e
      rw [List.nil_append] at z
      obtain ⟨e1, xs, e2, ru, _⟩ := hp j hj
      refine ⟨V.ref (bs j), H, J, rfl, q1 j _ e1 ?_⟩
      have l1 := all.length
      have l2 := ru.length
      rw [z] at l1
      rw [e2, flat_one e2 (l1.trans l2.symm)]
    · rw [List.nil_append] at z
      have fr : H a = none := I.hok.fresh e
      exact ⟨.ref a, _, I.laid (t' := tk) kp e (show ObjOk X.prog X.w _ _ _ (.frz (tupO ((List.range ws.length).map ts).flatten) (.tup xss.flatten)) from ⟨z, hz, _, all, ⟨_, z, rfl, _, rfl⟩⟩), rfl, q2 _ _ fr rfl⟩
end Dv

set_option Elab.async false
set_option linter.all false
set_option maxRecDepth 100000
set_option maxHeartbeats 1000000
/-! sum(x, ()), x a tuple of tuples -/
namespace DvS
open PySem PySem.Spec PyProof.Rows L2 Dv
open PySem.Sem (wp)
section
variable {prog : Program} {w : World} {A : Around} {E : Value → Shared → Prop} {s : Shared}
/-- sum(x, t) -/
theorem sum_tupsT {l t0 : Addr} (bs : Nat → Addr) (its : Nat → List Value) (n : Nat) (u0 : List Value) {vs : Array Value} {Q : Value → Shared → Prop} (hh : A.handled = none) (hl : s.heap.IsTuple l vs) (hn : vs.size = n) (hv : ∀ (i : Nat) (v : Value), vs[i]? = some v → v = Value.ref (bs i)) (h0 : s.heap.IsTuple t0 u0.toArray)
    (ht : ∀ i, i < n → s.heap.IsTuple (bs i) (its i).toArray) (hlen : (u0 ++ ((List.range n).map its).flatten).length ≤ sizeLine)
    (h : ∀ h' tk a, (∀ b o, s.heap.get? b = some o → h'.get? b = some o) → Far s.heap h' t0 bs its u0 n a → Q (.ref a) { s with heap := h', toks := tk }) : wpAny (model prog w) A (call (.builtin "sum") [.ref l, .ref t0]) Q E s := by
  refine call_function_tree F.kind_sum F.plain_sum F.entry_sum (args_sum2 _ _) ?_
  unfold Builtin.«sum»
  simp only [List.length_cons, List.length_nil]
  rw [if_neg (by decide)]
  refine wpAny_bind (wpAny_of_eq (show Builtin.Builtins.bindParams "sum" ["start"] 0 { pos := [.ref t0] } = pure [some (.ref t0)] from rfl) ?_)
  obtain ⟨o, ho, _⟩ := id hl
  have hne : l ≠ s.heap.objs.size := Nat.ne_of_lt (Heap.lt_size ho)
  refine wpAny_bind (wpAny_pyIter_tuple hl ?_)
  let s2 : Shared := { s with heap := s.heap.push { cls := .type "tuple_iterator", data := .fields #[.ref l, .int 0 0] } }
  have hold : ∀ b o, s.heap.get? b = some o → s2.heap.get? b = some o := fun b o e => Heap.get?_push_of_some _ e
  have W := (Walks.tuple (prog := prog) (w := w) (A := A.in1) hh s.heap.objs.size l hne vs).toS
  have ti : s2.TypeIs (.ref t0) "tuple" := by
    obtain ⟨o, ho, hc, _⟩ := h0
    exact ⟨o, hold _ _ ho, hc⟩
  refine wpAny_bind (wpAny_pure ?_)
  simp only [List.forIn_cons, List.forIn_nil]
  refine wpAny_bind (wpAny_bind (wpAny_bind (wpAny_isInstance (T := "tuple") (b := false) ti sub_tup_str ?_)))
  simp only [Bool.false_eq_true, if_false]
  refine wpAny_pure (wpAny_bind (wpAny_bind (wpAny_isInstance (T := "tuple") (b := false) ti sub_tup_bytes ?_)))
  simp only [Bool.false_eq_true, if_false]
  refine wpAny_pure (wpAny_bind (wpAny_bind (wpAny_isInstance (T := "tuple") (b := false) ti sub_tup_barr ?_)))
  simp only [Bool.false_eq_true, if_false]
  refine wpAny_pure (wpAny_pure ?_)
  refine wpAny_bind (wpAny_newObj_type ?_)
  have sz2 : s2.heap.objs.size = s.heap.objs.size + 1 := Heap.size_push ..
  have st0 : (s2.heap.push (accO (.ref t0) 0)).IsTupleIter s.heap.objs.size l 0 ∧ (s2.heap.push (accO (.ref t0) 0)).IsTuple l vs :=
    ⟨⟨_, Heap.get?_push_of_some _ (Heap.get?_push_size _ rfl), rfl, rfl⟩, (hl.at fun o e => Heap.get?_push_of_some _ (hold _ o e))⟩
  refine wpAny_pure ⟨plainId_quiet F.plain_sum_loop _, sum_tup_loop W s.heap t0 bs its u0 (fun i v hP => hv i v hP) s2.heap.objs.size (fun z => ?_) (by rw [sz2]; exact Nat.le_succ _) (fun b hb => ?_) (fun b hb => ?_) (fun i hi => ht i (by rw [← hn]; exact hi)) (by rw [hn]; exact hlen) n 0 _ t0 0 (by rw [hn]; rfl) (Nat.zero_le _) st0
    (Heap.get?_push_size _ rfl) (fun b o e => Heap.get?_push_of_some _ (hold b o e)) (fun z => ?_) (fun z => ?_) ⟨?_, .inl ⟨rfl, by simp⟩⟩ fun s' a' hm Fa => ?_⟩
  · rcases List.mem_cons.mp z with z | z
    · rw [sz2] at z; exact absurd z (Nat.succ_ne_self _)
    · have := List.mem_singleton.mp z
      rw [sz2] at this
      have h2 := Heap.lt_size ho
      rw [← this] at h2
      exact absurd h2 (Nat.not_lt.mpr (Nat.le_succ _))
  · rw [List.mem_singleton.mp hb]; exact Nat.le_refl _
  · rw [List.mem_singleton.mp hb, sz2]; exact Nat.lt_succ_self _
  · have h2 : t0 < s.heap.objs.size := by
      obtain ⟨o, ho, _⟩ := h0
      exact Heap.lt_size ho
    rw [z, sz2] at h2
    exact absurd h2 (Nat.not_lt.mpr (Nat.le_succ _))
  · have h2 : t0 < s.heap.objs.size := by
      obtain ⟨o, ho, _⟩ := h0
      exact Heap.lt_size ho
    rw [List.mem_singleton.mp z] at h2
    exact absurd h2 (Nat.lt_irrefl _)
  · have : (u0 ++ ((List.range 0).map its).flatten) = u0 := by simp
    rw [this]
    exact h0.at fun o e => Heap.get?_push_of_some _ (hold _ o e)
  · obtain ⟨h', g', d', tk', os'⟩ := s'
    have e1 : g' = s.gens := hm.gens
    have e2 : d' = s.drawn := hm.drawn
    have e3 : os' = s.os := hm.os
    subst e1 e2 e3
    rw [hn] at Fa
    exact h h' tk' a' (fun b o e => hm.heap b o (fun z => by
      have h2 := Heap.lt_size e
      rcases List.mem_cons.mp z with z | z
      · rw [z, sz2] at h2; exact absurd h2 (Nat.not_lt.mpr (Nat.le_succ _))
      · rw [List.mem_singleton.mp z] at h2; exact absurd h2 (Nat.lt_irrefl _)) (Heap.get?_push_of_some _ (hold b o e))) Fa
end
end DvS
namespace Dv
open PySem PySem.Spec PyProof.Rows L2 DvS
def rSumTT (K : PySem.W.Frag) : List V → Hp → VK → Prop := fun vs H Q => ∃ (l t : Addr) (ws : List V) (xss : List (List V)), vs = [V.ref l, V.ref t] ∧ SqT K H l ws ∧ SqT K H t [] ∧ ws.length = xss.length ∧ (∀ (i : Nat) (x : V) (xs : List V), ws[i]? = some x → xss[i]? = some xs → ∃ b, x = V.ref b ∧ SqT K H b xs) ∧ xss.flatten.length ≤ sizeLine ∧
  (xss.flatten = [] → Q (.ref t) H) ∧ (∀ (i : Nat) (b : Addr), ws[i]? = some (V.ref b) → xss[i]? = some xss.flatten → Q (.ref b) H) ∧ NewT xss.flatten H Q
theorem cr_sumTT {X : L2.Cx} (hc : X.calm = true) : CallR X (.builtin "sum") (rSumTT X.K) := by
  intro pins s σ H vs us Q I r h
  obtain ⟨l, t, ws, xss, rfl, hl, ht, hlen, hx, hz, q0, q1, q2⟩ := h
  obtain ⟨u1, u2, rfl, r1, r2⟩ := vals2 r
  obtain rfl : u1 = Value.ref l := r1
  obtain rfl : u2 = Value.ref t := r2
  obtain ⟨its, rv, pl, _⟩ := I.tuple hl
  obtain ⟨us0, rt, pt, _⟩ := I.tuple ht
  cases rt
  -- the parts as values
  have pick : ∀ i, ∃ (b : Addr) (us : List Value), i < ws.length → (ws[i]? = some (V.ref b) ∧ ∃ xs, xss[i]? = some xs ∧ Vals xs us ∧ s.heap.IsTuple b us.toArray) := fun i => by
    by_cases hi : i < ws.length
    · obtain ⟨b, e, hb⟩ := hx i ws[i] xss[i] (List.getElem?_eq_getElem hi) (List.getElem?_eq_getElem (by omega))
      obtain ⟨us, ru, pu, _⟩ := I.tuple hb
      exact ⟨b, us, fun _ => ⟨by rw [← e]; exact List.getElem?_eq_getElem hi, _, List.getElem?_eq_getElem (by omega), ru, pu⟩⟩
    · exact ⟨0, [], fun z => absurd z hi⟩
  let bs : Nat → Addr := fun i => (pick i).choose
  let ts : Nat → List Value := fun i => (pick i).choose_spec.choose
  have hp : ∀ i, i < ws.length → (ws[i]? = some (V.ref (bs i)) ∧ ∃ xs, xss[i]? = some xs ∧ Vals xs (ts i) ∧ s.heap.IsTuple (bs i) (ts i).toArray) := fun i hi => (pick i).choose_spec.choose_spec hi
  have cat : ∀ m, m ≤ ws.length → Vals (xss.take m).flatten ((List.range m).map ts).flatten := fun m => by
    induction m with
    | zero => intro _; exact .nil
    | succ m ih =>
      intro hm
      obtain ⟨_, xs, e2, ru, _⟩ := hp m (by omega)
      have e3 : (xss.take (m + 1)).flatten = (xss.take m).flatten ++ xs := by
        rw [List.take_add_one, e2]; simp
      have e4 : ((List.range (m + 1)).map ts).flatten = ((List.range m).map ts).flatten ++ ts m := by
        rw [List.range_succ, List.map_append, List.flatten_append]; simp
      rw [e3, e4]
      exact (ih (by omega)).append ru
  have all := cat ws.length (Nat.le_refl _)
  rw [List.take_of_length_le (by omega)] at all
  have szs : its.length = ws.length := rv.length.symm
  refine sum_tupsT (vs := its.toArray) bs ts ws.length [] (I.ok.hd hc) pl (by rw [List.size_toArray, szs]) (fun i v hv => ?_) pt (fun i hi => (hp i hi).2.choose_spec.2.2) (by rw [List.nil_append, ← all.length]; exact hz) fun h' tk a kp Fa => ?_
  · have hv : its[i]? = some v := by simpa using hv
    have hi : i < ws.length := by
      have := (List.getElem?_eq_some_iff.mp hv).1
      omega
    obtain ⟨u, e5, e6⟩ := rv.get (hp i hi).1
    rw [hv] at e5
    cases e5
    exact e6
  · have J := I.kept (t' := tk) kp
    rcases Fa.from_ with ⟨e, z⟩ | ⟨j, hj, e, z⟩ | ⟨e, z⟩
    · subst e
      rw [List.nil_append] at z
      refine ⟨V.ref a, H, J, rfl, q0 ?_⟩
      have := all.length
      rw [z] at this
      exact List.eq_nil_of_length_eq_zero this
    · subst e
      rw [List.nil_append] at z
      obtain ⟨e1, xs, e2, ru, _⟩ := hp j hj
      refine ⟨V.ref (bs j), H, J, rfl, q1 j _ e1 ?_⟩
      have l1 := all.length
      have l2 := ru.length
      rw [z] at l1
      rw [e2, flat_one e2 (l1.trans l2.symm)]
    · rw [List.nil_append] at z
      have fr : H a = none := I.hok.fresh e
      exact ⟨.ref a, _, I.laid (t' := tk) kp e (show ObjOk X.prog X.w _ _ _ (.frz (tupO ((List.range ws.length).map ts).flatten) (.tup xss.flatten)) from ⟨z, hz, _, all, ⟨_, z, rfl, _, rfl⟩⟩), rfl, q2 _ _ fr rfl⟩
end Dv

set_option Elab.async false
set_option linter.all false
set_option maxRecDepth 100000
set_option maxHeartbeats 4000000
namespace Dv
open PySem L2
variable [TabC]

def CallD (X : L2.Cx) (f : Value) (ds : List D) (s : Sl) : Prop := ∃ r, CallR X f r ∧ ∀ (ρ : Rho) (σ : St) (H0 H : Hp) (vs : List V) (Q : VK), REnv (Cx.G X) ρ σ H0 H → Reps (Cx.G X) H0 ds vs →
  (∀ v H' H0', Tr ρ σ H0 H ρ σ H0' H' → REnv (Cx.G X) ρ σ H0' H' → RSl (Cx.G X) ρ σ H ρ H0' H' s v → Q v H') → r vs H Q

def asInts : List D → Option (List Int)
  | [] => some []
  | .int i :: ds => (asInts ds).map (i :: ·)
  | _ => none
theorem asInts_eq : ∀ {ds : List D} {ns : List Int}, asInts ds = some ns → ds = ns.map .int
  | [], ns, h => by simp only [asInts, Option.some.injEq] at h; subst h; rfl
  | d :: ds, ns, h => by
    cases d <;> try (simp [asInts] at h; done)
    rename_i i
    simp only [asInts] at h
    cases q : asInts ds with
    | none => rw [q] at h; cases h
    | some ms =>
      rw [q] at h
      simp only [Option.map_some, Option.some.injEq] at h
      subst h
      rw [asInts_eq q, List.map_cons]
theorem asInts_map : ∀ ns : List Int, asInts (ns.map .int) = some ns
  | [] => rfl
  | n :: ns => by simp [asInts, asInts_map ns]
def asBools : List D → Option (List Bool)
  | [] => some []
  | .bool i :: ds => (asBools ds).map (i :: ·)
  | _ => none
theorem asBools_eq : ∀ {ds : List D} {ns : List Bool}, asBools ds = some ns → ds = ns.map .bool
  | [], ns, h => by simp only [asBools, Option.some.injEq] at h; subst h; rfl
  | d :: ds, ns, h => by
    cases d <;> try (simp [asBools] at h; done)
    rename_i i
    simp only [asBools] at h
    cases q : asBools ds with
    | none => rw [q] at h; cases h
    | some ms =>
      rw [q] at h
      simp only [Option.map_some, Option.some.injEq] at h
      subst h
      rw [asBools_eq q, List.map_cons]
theorem asBools_map : ∀ ns : List Bool, asBools (ns.map .bool) = some ns
  | [] => rfl
  | n :: ns => by simp [asBools, asBools_map ns]
theorem Reps.bools {G : Ctx} {H : Hp} : ∀ {ns : List Bool} {vs : List V}, Reps G H (ns.map PyData.bool) vs → vs = ns.map V.bl
  | [], _, h => by simpa [Reps] using h
  | n :: ns, _, h => by
    simp only [List.map_cons, Reps] at h
    obtain ⟨w, us, rfl, h1, h2⟩ := h
    simp only [Rep] at h1
    rw [h1, h2.bools, List.map_cons]
/-- whole numbers in order -/
def isort (ns : List Int) : List Int := ns.mergeSort (fun a b => decide (a ≤ b))
theorem isort_perm (ns : List Int) : (isort ns).Perm ns := List.mergeSort_perm ns _
theorem isort_sorted (ns : List Int) : (isort ns).Pairwise (· ≤ ·) := by
  have h := List.pairwise_mergeSort (le := fun a b : Int => decide (a ≤ b)) (fun a b c h1 h2 => by simp only [decide_eq_true_eq] at *; omega) (fun a b => by simp only [Bool.or_eq_true, decide_eq_true_eq]; omega) ns
  exact h.imp fun {a b} h => by simpa using h
theorem sorted_one {xs ys : List Int} (p : xs.Perm ys) (h1 : xs.Pairwise (· ≤ ·)) (h2 : ys.Pairwise (· ≤ ·)) : xs = ys :=
  p.eq_of_pairwise (fun a b _ _ h3 h4 => Int.le_antisymm h3 h4) h1 h2
theorem isort_of {ns ms : List Int} (p : ms.Perm ns) (h : ms.Pairwise (· ≤ ·)) : ms = isort ns := sorted_one (p.trans (isort_perm ns).symm) h (isort_sorted ns)

def notNone : D → Bool
  | .none => false
  | _ => true
mutual
theorem alike_noDict : ∀ x : D, PySem.W.alike x x = true → x.hasDict = false
  | .none, _ => rfl
  | .bool _, _ => rfl
  | .int _, _ => rfl
  | .str _, _ => rfl
  | .dict _, h => by simp [PySem.W.alike] at h
  | .list xs, h => by
    simp only [PyData.hasDict]
    exact alikeAll_noDict xs (by simpa [PySem.W.alike] using h)
  | .tuple xs, h => by
    simp only [PyData.hasDict]
    exact alikeAll_noDict xs (by simpa [PySem.W.alike] using h)
theorem alikeAll_noDict : ∀ xs : List D, PySem.W.alikeAll xs xs = true → PyData.hasDictAll xs = false
  | [], _ => rfl
  | x :: xs, h => by
    have h' : PySem.W.alike x x = true ∧ PySem.W.alikeAll xs xs = true := by simpa [PySem.W.alikeAll] using h
    simp only [PyData.hasDictAll, alike_noDict x h'.1, alikeAll_noDict xs h'.2, Bool.or_self]
end
/-- data that can be compared with each other -/
def alikeB (xs : List D) : Bool := xs.all fun x => xs.all (fun y => PySem.W.alike x y) && notNone x
theorem alikeB_noDict {xs : List D} (h : alikeB xs = true) : PyData.hasDictAll xs = false := by
  have key : ∀ ys : List D, (∀ x ∈ ys, PySem.W.alike x x = true) → PyData.hasDictAll ys = false := by
    intro ys
    induction ys with
    | nil => exact fun _ => rfl
    | cons y ys ih => exact fun hy => by simp only [PyData.hasDictAll, alike_noDict y (hy y List.mem_cons_self), ih fun x hx => hy x (List.mem_cons_of_mem _ hx), Bool.or_self]
  refine key xs fun x hx => ?_
  have h1 := List.all_eq_true.mp h x hx
  simp only [Bool.and_eq_true] at h1
  exact List.all_eq_true.mp h1.1 x hx
theorem alikeB_ok {xs : List D} (h : alikeB xs = true) : PySem.W.AlikeAll xs := by
  unfold alikeB at h
  rw [List.all_eq_true] at h
  refine ⟨fun x hx y hy => ?_, fun x hx e => ?_⟩
  · have h1 := h x hx
    rw [Bool.and_eq_true, List.all_eq_true] at h1
    exact h1.1 y hy
  · have h1 := h x hx
    rw [Bool.and_eq_true, e] at h1
    exact absurd h1.2 (by decide)
def minE : List D → Option Sl
  | [] => none
  | d :: ds => if alikeB (d :: ds) = true ∧ PyData.depthAll (d :: ds) ≤ 100 then some (.im (PySem.W.minD d ds)) else none
/-- rows as data -/
def ddOf : D → Option Dd
  | .tuple [.int h, .str w, .int p] => if w = "leave" then some (.leave h p) else none
  | .tuple [.int h, .str w, .tuple ps] => if w = "wish" then (asInts ps).map (.wish h) else none
  | _ => none
theorem ddOf_eq {d : D} {a : Dd} (h : ddOf d = some a) : d = ddD a := by
  unfold ddOf at h
  split at h
  · split at h
    · rename_i e; subst e; cases h; rfl
    · cases h
  · split at h
    · rename_i ps e
      subst e
      cases hi : asInts ps with
      | none => rw [hi] at h; cases h
      | some ns =>
        rw [hi] at h
        cases h
        rw [asInts_eq hi]
        rfl
    · cases h
  · cases h
theorem ddOf_dd (a : Dd) : ddOf (ddD a) = some a := by
  cases a with
  | leave h p => rfl
  | wish h ps =>
    show (if ("wish" : Str) = "wish" then (asInts (ps.map .int)).map (Dd.wish h) else none) = _
    rw [if_pos rfl, asInts_map]
    rfl
def asDds : List D → Option (List Dd)
  | [] => some []
  | d :: ds => match ddOf d with
    | some a => (asDds ds).map (a :: ·)
    | none => none
theorem asDds_eq : ∀ {xs : List D} {ds : List Dd}, asDds xs = some ds → xs = ds.map ddD
  | [], ds, h => by simp only [asDds, Option.some.injEq] at h; subst h; rfl
  | d :: xs, ds, h => by
    simp only [asDds] at h
    split at h
    · rename_i a ha
      cases q : asDds xs with
      | none => rw [q] at h; cases h
      | some ms =>
        rw [q] at h
        simp only [Option.map_some, Option.some.injEq] at h
        subst h
        rw [asDds_eq q, ddOf_eq ha, List.map_cons]
    · cases h
theorem asDds_map : ∀ ds : List Dd, asDds (ds.map ddD) = some ds
  | [] => rfl
  | d :: ds => by simp [asDds, ddOf_dd, asDds_map ds]
def sortE (xs : List D) : Option Sl := match asInts xs with
  | some ns => some (.ow ((isort ns).map .int))
  | none => match asDds xs with
    | some ds => some (.ow ((dsort ds).map ddD))
    | none => none
def asTups : List D → Option (List (List D))
  | [] => some []
  | .tuple xs :: ds => (asTups ds).map (xs :: ·)
  | _ => none
theorem asTups_eq : ∀ {xs : List D} {ds : List (List D)}, asTups xs = some ds → xs = ds.map .tuple
  | [], ds, h => by simp only [asTups, Option.some.injEq] at h; subst h; rfl
  | d :: xs, ds, h => by
    cases d <;> try (simp [asTups] at h; done)
    rename_i i
    simp only [asTups] at h
    cases q : asTups xs with
    | none => rw [q] at h; cases h
    | some ms =>
      rw [q] at h
      simp only [Option.map_some, Option.some.injEq] at h
      subst h
      rw [asTups_eq q, List.map_cons]
theorem asTups_map : ∀ ds : List (List D), asTups (ds.map .tuple) = some ds
  | [] => rfl
  | d :: ds => by simp [asTups, asTups_map ds]
/-- sum(x, ()) -/
def sumTE (xs : List D) : List D → Option Sl
  | [] => match asTups xs with
    | some tss => if tss.flatten.length ≤ sline then some (.im (.tuple tss.flatten)) else none
    | none => none
  | _ => none
def bltD (x : Str) : List D → Option Sl
  | [.tuple xs] => if x = "len" then some (.im (.int (xs.length : Nat))) else if x = "tuple" then some (.im (.tuple xs)) else if x = "list" then some (.ow xs)
    else if x = "sorted" then sortE xs else none
  | [.list xs] => if x = "len" then some (.im (.int (xs.length : Nat))) else if x = "tuple" then some (.im (.tuple xs)) else if x = "list" then some (.ow xs)
    else if x = "sum" then (asInts xs).map fun ns => .im (.int ns.sum) else if x = "sorted" then sortE xs
    else if x = "all" then (asBools xs).map fun bs => .im (.bool (bs.all id)) else if x = "any" then (asBools xs).map fun bs => .im (.bool (bs.any id))
    else if x = "min" then minE xs else none
  | [.list xs, .tuple ys] => if x = "sum" then sumTE xs ys else none
  | [.tuple xs, .tuple ys] => if x = "sum" then sumTE xs ys else none
  | [.str z] => if x = "len" then (if z.length ≤ sline then some (.im (.int (z.length : Nat))) else none) else none
  | [.int i] => if x = "abs" then some (.im (.int (if i < 0 then -i else i))) else if x = "str" then (if i.natAbs.log2 < 1920 then some (.im (.str (toString i))) else none) else none
  | [.bool b] => if x = "int" then some (.im (.int (if b = true then 1 else 0))) else none
  | [.int i, .int j] => if x = "divmod" then (if 0 < j ∧ j < 1073741824 then some (.im (.tuple [.int (i / j), .int (i % j)])) else none)
    else if x = "max" then some (.im (.int (if j > i then j else i))) else if x = "min" then some (.im (.int (if j < i then j else i))) else none
  | _ => none
section
variable {X : L2.Cx}
theorem Reps.one {G : Ctx} {H : Hp} {d : D} {vs : List V} (h : Reps G H [d] vs) : ∃ v, vs = [v] ∧ Rep G H d v := by
  simp only [Reps] at h
  obtain ⟨w, ws, e, h1, h2⟩ := h
  subst e; subst h2
  exact ⟨w, rfl, h1⟩
theorem Reps.two {G : Ctx} {H : Hp} {d e : D} {vs : List V} (h : Reps G H [d, e] vs) : ∃ v w, vs = [v, w] ∧ Rep G H d v ∧ Rep G H e w := by
  simp only [Reps] at h
  obtain ⟨w, ws, e, h1, u, us, e2, h2, h3⟩ := h
  subst e; subst e2; subst h3
  exact ⟨w, u, rfl, h1, h2⟩
theorem each_reps {G : Ctx} {H : Hp} : ∀ {ds : List Dd} {ws : List V}, Reps G H (ds.map ddD) ws → PySem.W.EachIs (fun x d => Rep G H (ddD d) x) ws ds
  | [], ws, h => by
    simp only [List.map_nil, Reps] at h
    subst h
    exact .nil
  | d :: ds, ws, h => by
    simp only [List.map_cons, Reps] at h
    obtain ⟨w, us, rfl, h1, h2⟩ := h
    exact .cons h1 (each_reps h2)
theorem reps_each {G : Ctx} {H : Hp} : ∀ {ws : List V} {ds : List Dd}, PySem.W.EachIs (fun x d => Rep G H (ddD d) x) ws ds → Reps G H (ds.map ddD) ws
  | _, _, .nil => Reps.nil
  | _, _, .cons h e => Reps.cons h (reps_each e)
theorem dd_noDict (d : Dd) : (ddD d).hasDict = false := by
  cases d with
  | leave h p => rfl
  | wish h ps =>
    have : ∀ ps : List Int, PyData.hasDictAll (ps.map PyData.int) = false := fun ps => by
      induction ps with
      | nil => rfl
      | cons p ps ih => simp [PyData.hasDictAll, PyData.hasDict, ih]
    simp [ddD, PyData.hasDict, PyData.hasDictAll, this]
/-- tuples by their parts -/
theorem reps_tups {G : Ctx} {H : Hp} : ∀ {tss : List (List D)} {ws : List V}, Reps G H (tss.map .tuple) ws → ∃ xss : List (List V), ws.length = xss.length ∧ xss.length = tss.length ∧
    (∀ (i : Nat) (x : V) (xs : List V), ws[i]? = some x → xss[i]? = some xs → ∃ b ts, x = V.ref b ∧ Rd H b (.tup xs) ∧ tss[i]? = some ts ∧ Reps G H ts xs ∧ Rep G H (.tuple ts) x) ∧ Reps G H tss.flatten xss.flatten
  | [], ws, h => by
    simp only [List.map_nil, Reps] at h
    subst h
    exact ⟨[], rfl, rfl, fun i x xs h => by simp at h, Reps.nil⟩
  | t :: tss, ws, h => by
    simp only [List.map_cons, Reps] at h
    obtain ⟨w, us, rfl, h1, h2⟩ := h
    obtain ⟨xss, e1, e2, e3, e4⟩ := reps_tups h2
    obtain ⟨a, vs, rfl, g1, g2⟩ := h1.tup
    refine ⟨vs :: xss, by simp [e1], by simp [e2], fun i x xs hx hxs => ?_, ?_⟩
    · cases i with
      | zero =>
        simp only [List.getElem?_cons_zero, Option.some.injEq] at hx hxs
        subst hx hxs
        exact ⟨a, t, rfl, g1, rfl, g2, h1⟩
      | succ i => exact e3 i x xs (by simpa using hx) (by simpa using hxs)
    · simp only [List.flatten_cons]
      exact g2.append e4
theorem sum_ok (hc : X.calm = true) {xs ys : List D} {s : Sl} (h : sumTE xs ys = some s) : CallD X (.builtin "sum") [.list xs, .tuple ys] s := by
  unfold sumTE at h
  split at h
  · cases ht : asTups xs with
    | none => rw [ht] at h; cases h
    | some tss =>
      rw [ht] at h
      dsimp only at h
      split at h
      · rename_i hz
        cases h
        have e := asTups_eq ht
        subst e
        refine ⟨_, cr_sumT hc, fun ρ σ H0 H vs Q E r q => ?_⟩
        obtain ⟨v, w, rfl, r1, r2⟩ := r.two
        obtain ⟨l, ws, rfl, h1, h2⟩ := r1.lst
        obtain ⟨t, us, rfl, h3, h4⟩ := r2.tup
        have e0 : us = [] := List.eq_nil_of_length_eq_zero (by have := h4.length; simpa using this.symm)
        subst e0
        obtain ⟨xss, l1, l2, hp, hf⟩ := reps_tups h2
        have lf : xss.flatten.length = tss.flatten.length := hf.length.symm
        refine ⟨l, t, ws, xss, rfl, SqL.of (E.ex _ _ h1), (.inl (ex_rd E.ex h3)), l1, fun i x ys hx hy => ?_, by rw [lf]; exact sline_le hz, fun z => ?_, fun i b hb hx => ?_, fun p o hn ho => ?_⟩
        · obtain ⟨b, ts, e, g1, _⟩ := hp i x ys hx hy
          exact ⟨b, e, .inl (ex_rd E.ex g1)⟩
        · have : tss.flatten = [] := List.eq_nil_of_length_eq_zero (by rw [← lf, z]; rfl)
          rw [this] at q
          exact q _ H H0 (Tr.refl _ _ _ _) E (rsl_im r2)
        · obtain ⟨b', ts, e, g1, g2, g3, g4⟩ := hp i _ _ hb hx
          have : tss.flatten = ts := flat_one g2 (by rw [← lf]; exact g3.length.symm)
          rw [this] at q
          exact q _ H H0 (Tr.refl _ _ _ _) E (rsl_im g4)
        · exact q _ _ _ (Tr.newI hn (E.ex.back hn)) (E.newI hn) (rsl_im (rep_tupO (.new ho) (hf.ex (Ex.new (E.ex.back hn)))))
      · cases h
  · cases h
theorem sum_okT (hc : X.calm = true) {xs ys : List D} {s : Sl} (h : sumTE xs ys = some s) : CallD X (.builtin "sum") [.tuple xs, .tuple ys] s := by
  unfold sumTE at h
  split at h
  · cases ht : asTups xs with
    | none => rw [ht] at h; cases h
    | some tss =>
      rw [ht] at h
      dsimp only at h
      split at h
      · rename_i hz
        cases h
        have e := asTups_eq ht
        subst e
        refine ⟨_, cr_sumTT hc, fun ρ σ H0 H vs Q E r q => ?_⟩
        obtain ⟨v, w, rfl, r1, r2⟩ := r.two
        obtain ⟨l, ws, rfl, h1, h2⟩ := r1.tup
        obtain ⟨t, us, rfl, h3, h4⟩ := r2.tup
        have e0 : us = [] := List.eq_nil_of_length_eq_zero (by have := h4.length; simpa using this.symm)
        subst e0
        obtain ⟨xss, l1, l2, hp, hf⟩ := reps_tups h2
        have lf : xss.flatten.length = tss.flatten.length := hf.length.symm
        refine ⟨l, t, ws, xss, rfl, (.inl (ex_rd E.ex h1)), (.inl (ex_rd E.ex h3)), l1, fun i x ys hx hy => ?_, by rw [lf]; exact sline_le hz, fun z => ?_, fun i b hb hx => ?_, fun p o hn ho => ?_⟩
        · obtain ⟨b, ts, e, g1, _⟩ := hp i x ys hx hy
          exact ⟨b, e, .inl (ex_rd E.ex g1)⟩
        · have : tss.flatten = [] := List.eq_nil_of_length_eq_zero (by rw [← lf, z]; rfl)
          rw [this] at q
          exact q _ H H0 (Tr.refl _ _ _ _) E (rsl_im r2)
        · obtain ⟨b', ts, e, g1, g2, g3, g4⟩ := hp i _ _ hb hx
          have : tss.flatten = ts := flat_one g2 (by rw [← lf]; exact g3.length.symm)
          rw [this] at q
          exact q _ H H0 (Tr.refl _ _ _ _) E (rsl_im g4)
        · exact q _ _ _ (Tr.newI hn (E.ex.back hn)) (E.newI hn) (rsl_im (rep_tupO (.new ho) (hf.ex (Ex.new (E.ex.back hn)))))
      · cases h
  · cases h
theorem sort_dds (hu : X.A.units + 64 < cLine) {xs : List D} {ds : List Dd} (h : xs = ds.map ddD) (b : Bool) : CallD X (.builtin "sorted") [cond b (.list xs) (.tuple xs)] (.ow ((dsort ds).map ddD)) := by
  subst h
  refine ⟨_, cr_sortDd hu, fun ρ σ H0 H vs Q E r q => ?_⟩
  obtain ⟨v, rfl, r1⟩ := r.one
  cases b with
  | true =>
    obtain ⟨a, ws, rfl, h1, h2⟩ := Rep.lst r1
    exact ⟨a, ws, ds, _, rfl, .inl (SqL.of (E.ex _ _ h1)), each_reps h2, fun x d hx => Rep.dp (dd_noDict d) (hx.ex E.ex), fun ws' p he hn => q _ _ _ (Tr.newO hn) (E.newO hn) (RSl.newO E hn (reps_each he))⟩
  | false =>
    obtain ⟨a, ws, rfl, h1, h2⟩ := Rep.tup r1
    exact ⟨a, ws, ds, _, rfl, .inr (.inl (ex_rd E.ex h1)), each_reps h2, fun x d hx => Rep.dp (dd_noDict d) (hx.ex E.ex), fun ws' p he hn => q _ _ _ (Tr.newO hn) (E.newO hn) (RSl.newO E hn (reps_each he))⟩
theorem blt_ok {k : Nat} (hr : Room k X.A) (hc : X.calm = true) {x : Str} {f : Value} {ds : List D} {s : Sl} (hf : bltV x = some f) (h : bltD x ds = some s) : CallD X f ds s := by
  unfold bltD at h
  split at h
  · rename_i xs
    split at h
    · rename_i e; subst e; cases h; cases (show some (Value.builtin "len") = some f from hf)
      refine ⟨_, call_len_seq, fun ρ σ H0 H vs Q E r q => ?_⟩
      obtain ⟨v, rfl, r1⟩ := r.one
      obtain ⟨a, ws, rfl, h1, h2⟩ := r1.tup
      exact ⟨a, ws, rfl, .inr ((.inl (ex_rd E.ex h1))), q _ H H0 (Tr.refl _ _ _ _) E (by rw [← h2.length]; exact rsl_im (rep_int _))⟩
    · split at h
      · rename_i e; subst e; cases h; cases (show some (Value.type "tuple") = some f from hf)
        refine ⟨_, call_tupleN, fun ρ σ H0 H vs Q E r q => ?_⟩
        obtain ⟨v, rfl, r1⟩ := r.one
        obtain ⟨a, ws, rfl, h1, h2⟩ := r1.tup
        exact ⟨a, ws, rfl, .inr ⟨(.inl (ex_rd E.ex h1)), q _ H H0 (Tr.refl _ _ _ _) E (rsl_im r1)⟩⟩
      · split at h
        · rename_i e; subst e; cases h; cases (show some (Value.type "list") = some f from hf)
          refine ⟨_, call_list_of, fun ρ σ H0 H vs Q E r q => ?_⟩
          obtain ⟨v, rfl, r1⟩ := r.one
          obtain ⟨a, ws, rfl, h1, h2⟩ := r1.tup
          exact ⟨a, ws, rfl, .inr ((.inl (ex_rd E.ex h1))), fun l hl => q _ _ _ (Tr.newO hl) (E.newO hl) (RSl.newO E hl h2)⟩
        · split at h
          · rename_i e; subst e; cases (show some (Value.builtin "sorted") = some f from hf)
            unfold sortE at h
            cases hi : asInts xs with
            | none =>
              rw [hi] at h
              dsimp only at h
              cases hd : asDds xs with
              | none => rw [hd] at h; cases h
              | some ds =>
                rw [hd] at h
                cases h
                exact sort_dds (by have := hr.un; omega) (asDds_eq hd) false
            | some ns =>
              rw [hi] at h
              cases h
              have e := asInts_eq hi
              subst e
              refine ⟨_, cr_sortedTup, fun ρ σ H0 H vs Q E r q => ?_⟩
              obtain ⟨v, rfl, r1⟩ := r.one
              obtain ⟨a, ws, rfl, h1, h2⟩ := r1.tup
              rw [h2.ints] at h1
              refine ⟨a, ns, rfl, (.inl (ex_rd E.ex h1)), fun ms p hp hs hn => ?_⟩
              rw [isort_of hp hs]
              exact q _ _ _ (Tr.newO hn) (E.newO hn) (RSl.newO E hn (Reps.of_ints _))
          · cases h
  · rename_i xs
    split at h
    · rename_i e; subst e; cases h; cases (show some (Value.builtin "len") = some f from hf)
      refine ⟨_, call_len_seq, fun ρ σ H0 H vs Q E r q => ?_⟩
      obtain ⟨v, rfl, r1⟩ := r.one
      obtain ⟨a, ws, rfl, h1, h2⟩ := r1.lst
      exact ⟨a, ws, rfl, .inl (SqL.of (E.ex _ _ h1)), q _ H H0 (Tr.refl _ _ _ _) E (by rw [← h2.length]; exact rsl_im (rep_int _))⟩
    · split at h
      · rename_i e; subst e; cases h; cases (show some (Value.type "tuple") = some f from hf)
        refine ⟨_, call_tupleN, fun ρ σ H0 H vs Q E r q => ?_⟩
        obtain ⟨v, rfl, r1⟩ := r.one
        obtain ⟨a, ws, rfl, h1, h2⟩ := r1.lst
        exact ⟨a, ws, rfl, .inl ⟨SqL.of (E.ex _ _ h1), fun l o hl ho => q _ _ _ (Tr.newI hl (E.ex.back hl)) (E.newI hl) (rsl_im (rep_tupO (.new ho) (h2.ex (Ex.new (E.ex.back hl)))))⟩⟩
      · split at h
        · rename_i e; subst e; cases h; cases (show some (Value.type "list") = some f from hf)
          refine ⟨_, call_list_of, fun ρ σ H0 H vs Q E r q => ?_⟩
          obtain ⟨v, rfl, r1⟩ := r.one
          obtain ⟨a, ws, rfl, h1, h2⟩ := r1.lst
          exact ⟨a, ws, rfl, .inl (SqL.of (E.ex _ _ h1)), fun l hl => q _ _ _ (Tr.newO hl) (E.newO hl) (RSl.newO E hl h2)⟩
        · split at h
          · rename_i e; subst e; cases (show some (Value.builtin "sum") = some f from hf)
            cases hi : asInts xs with
            | none => rw [hi] at h; cases h
            | some ns =>
              rw [hi] at h
              cases h
              have e := asInts_eq hi
              subst e
              refine ⟨_, cr_sum hc, fun ρ σ H0 H vs Q E r q => ?_⟩
              obtain ⟨v, rfl, r1⟩ := r.one
              obtain ⟨a, ws, rfl, h1, h2⟩ := r1.lst
              rw [h2.ints] at h1
              exact ⟨a, ns, rfl, SqL.of (E.ex _ _ h1), q _ H H0 (Tr.refl _ _ _ _) E (rsl_im (rep_int _))⟩
          · split at h
            · rename_i e; subst e; cases (show some (Value.builtin "sorted") = some f from hf)
              unfold sortE at h
              cases hi : asInts xs with
              | none =>
                rw [hi] at h
                dsimp only at h
                cases hd : asDds xs with
                | none => rw [hd] at h; cases h
                | some ds =>
                  rw [hd] at h
                  cases h
                  exact sort_dds (by have := hr.un; omega) (asDds_eq hd) true
              | some ns =>
                rw [hi] at h
                cases h
                have e := asInts_eq hi
                subst e
                refine ⟨_, cr_sortedI, fun ρ σ H0 H vs Q E r q => ?_⟩
                obtain ⟨v, rfl, r1⟩ := r.one
                obtain ⟨a, ws, rfl, h1, h2⟩ := r1.lst
                rw [h2.ints] at h1
                refine ⟨a, ns, rfl, SqL.of (E.ex _ _ h1), fun ms p hp hs hn => ?_⟩
                rw [isort_of hp hs]
                exact q _ _ _ (Tr.newO hn) (E.newO hn) (RSl.newO E hn (Reps.of_ints _))
            · split at h
              · rename_i e; subst e; cases (show some (Value.builtin "all") = some f from hf)
                cases hi : asBools xs with
                | none => rw [hi] at h; cases h
                | some ns =>
                  rw [hi] at h
                  cases h
                  have e := asBools_eq hi
                  subst e
                  refine ⟨_, cr_all hc, fun ρ σ H0 H vs Q E r q => ?_⟩
                  obtain ⟨v, rfl, r1⟩ := r.one
                  obtain ⟨a, ws, rfl, h1, h2⟩ := r1.lst
                  rw [h2.bools] at h1
                  exact ⟨a, ns, rfl, SqL.of (E.ex _ _ h1), q _ H H0 (Tr.refl _ _ _ _) E (rsl_im (rep_bl _))⟩
              · split at h
                · rename_i e; subst e; cases (show some (Value.builtin "any") = some f from hf)
                  cases hi : asBools xs with
                  | none => rw [hi] at h; cases h
                  | some ns =>
                    rw [hi] at h
                    cases h
                    have e := asBools_eq hi
                    subst e
                    refine ⟨_, cr_any hc, fun ρ σ H0 H vs Q E r q => ?_⟩
                    obtain ⟨v, rfl, r1⟩ := r.one
                    obtain ⟨a, ws, rfl, h1, h2⟩ := r1.lst
                    rw [h2.bools] at h1
                    exact ⟨a, ns, rfl, SqL.of (E.ex _ _ h1), q _ H H0 (Tr.refl _ _ _ _) E (rsl_im (rep_bl _))⟩
                · split at h
                  · rename_i e; subst e; cases (show some (Value.builtin "min") = some f from hf)
                    unfold minE at h
                    split at h
                    · cases h
                    · rename_i d ds
                      split at h
                      · rename_i hcd
                        cases h
                        refine ⟨_, cr_minD hr, fun ρ σ H0 H vs Q E r q => ?_⟩
                        obtain ⟨v, rfl, r1⟩ := r.one
                        obtain ⟨a, ws, rfl, h1, h2⟩ := r1.lst
                        refine ⟨a, ws, d, ds, rfl, SqL.of (E.ex _ _ h1), Reps.dps (alikeB_noDict hcd.1) (h2.ex E.ex), alikeB_ok hcd.1, hcd.2, fun i v hv he => ?_⟩
                        obtain ⟨u, g1, g2⟩ := h2.get he
                        rw [hv] at g1; cases g1
                        exact q _ H H0 (Tr.refl _ _ _ _) E (rsl_im g2)
                      · cases h
                  · cases h
  · rename_i xs ys
    split at h
    · rename_i e; subst e; cases (show some (Value.builtin "sum") = some f from hf)
      exact sum_ok hc h
    · cases h
  · rename_i xs ys
    split at h
    · rename_i e; subst e; cases (show some (Value.builtin "sum") = some f from hf)
      exact sum_okT hc h
    · cases h
  · split at h
    · rename_i e
      subst e
      split at h
      · rename_i z hz
        cases h; cases (show some (Value.builtin "len") = some f from hf)
        refine ⟨_, call_len, fun ρ σ H0 H vs Q E r q => ?_⟩
        obtain ⟨v, rfl, r1⟩ := r.one
        refine ⟨_, _, rfl, ?_, q _ H H0 (Tr.refl _ _ _ _) E (rsl_im (rep_int _))⟩
        rw [r1.str]
        exact ⟨sline_le hz, rfl⟩
      · cases h
    · cases h
  · split at h
    · rename_i i e
      subst e; cases h; cases (show some (Value.builtin "abs") = some f from hf)
      refine ⟨_, call_abs, fun ρ σ H0 H vs Q E r q => ?_⟩
      obtain ⟨v, rfl, r1⟩ := r.one
      exact ⟨i, by rw [r1.int], q _ H H0 (Tr.refl _ _ _ _) E (rsl_im (rep_int _))⟩
    · split at h
      · rename_i i _ e
        subst e
        split at h
        · rename_i hs
          cases h
          have hf2 : bltV "str" = some (Value.type "str") := by decide +kernel
          rw [hf2] at hf
          cases hf
          refine ⟨_, call_str_int, fun ρ σ H0 H vs Q E r q => ?_⟩
          obtain ⟨v, rfl, r1⟩ := r.one
          exact ⟨i, by rw [r1.int], hs, q _ H H0 (Tr.refl _ _ _ _) E (rsl_im (rep_str _))⟩
        · cases h
      · cases h
  · rename_i b
    split at h
    · rename_i e
      subst e; cases h; cases (show some (Value.type "int") = some f from hf)
      refine ⟨_, call_int1, fun ρ σ H0 H vs Q E r q => ?_⟩
      obtain ⟨v, rfl, r1⟩ := r.one
      exact .inr ⟨b, by rw [r1.bl], q _ H H0 (Tr.refl _ _ _ _) E (rsl_im (rep_int _))⟩
    · cases h
  · rename_i i j
    split at h
    · rename_i e
      subst e
      split at h
      · rename_i hcd
        cases h; cases (show some (Value.builtin "divmod") = some f from hf)
        refine ⟨_, call_divmodN, fun ρ σ H0 H vs Q E r q => ?_⟩
        obtain ⟨v, w, rfl, r1, r2⟩ := r.two
        refine ⟨i, j, by rw [r1.int, r2.int], hcd, fun p o hp ho => ?_⟩
        exact q _ _ _ (Tr.newI hp (E.ex.back hp)) (E.newI hp) (rsl_im (rep_tupO (.new ho) (Reps.cons (rep_int _) (Reps.cons (rep_int _) Reps.nil))))
      · cases h
    · split at h
      · rename_i e
        subst e; cases h; cases (show some (Value.builtin "max") = some f from hf)
        refine ⟨_, call_max2 hc, fun ρ σ H0 H vs Q E r q => ?_⟩
        obtain ⟨v, w, rfl, r1, r2⟩ := r.two
        exact ⟨i, j, by rw [r1.int, r2.int], q _ H H0 (Tr.refl _ _ _ _) E (rsl_im (rep_int _))⟩
      · split at h
        · rename_i e
          subst e; cases h; cases (show some (Value.builtin "min") = some f from hf)
          refine ⟨_, call_min2 hc, fun ρ σ H0 H vs Q E r q => ?_⟩
          obtain ⟨v, w, rfl, r1, r2⟩ := r.two
          exact ⟨i, j, by rw [r1.int, r2.int], q _ H H0 (Tr.refl _ _ _ _) E (rsl_im (rep_int _))⟩
        · cases h
  · cases h
end
end Dv

set_option Elab.async false
set_option linter.all false
set_option maxRecDepth 100000
set_option maxHeartbeats 4000000
namespace Dv
open PySem L2
variable [TabC]

section
variable {X : L2.Cx} {C : Cf} {sc : Scope} {k : Nat} {pos p : Pos}
/-- a built-in's call -/
def bltE (x : Str) (eas : Rho → Option (List D × Rho)) (ρ : Rho) : Option (Sl × Rho) := match eas ρ with
  | some (ds, ρ1) => match bltD x ds with
    | some s => some (s, ρ1)
    | none => none
  | none => none
theorem pe_bltS (K : COk C sc k X) {x : Str} {f : Value} (hf : bltV x = some f) (hg : globB sc x = true) (hd : plainName x = true) {e : Expr} {es : List Expr} (hs : (e :: es).all notStar = true)
    {eas : Rho → Option (List D × Rho)} (ha : PA X (e :: es) (tDs (Cx.G X) eas)) : PE X (.Call (.Name x p) (e :: es) [] pos) (tS (Cx.G X) (bltE x eas)) := PE.of fun σ H Q q => by
  obtain ⟨ρ, s, ρ', H0, hev, E, q⟩ := q
  unfold bltE at hev
  split at hev
  · rename_i ds ρ1 h1
    split at hev
    · rename_i s' h2
      simp only [Option.some.injEq, Prod.mk.injEq] at hev
      obtain ⟨rfl, rfl⟩ := hev
      obtain ⟨hb, hn, hk⟩ := bltV_boot hf
      simp only [plainName, Bool.and_eq_true, Bool.not_eq_true'] at hd
      simp only [List.all_cons, Bool.and_eq_true] at hs
      obtain ⟨r, hr, hq⟩ := blt_ok K.room K.calm hf h2
      rcases hk with ⟨id, rfl⟩ | ⟨T, rfl⟩
      · refine ⟨_, pe_callB hr (gl_of K.toCOkB hg) (K.blt x _ hf) hb ha hn hd.1 (star_of hs.1) (star_plain hs.2), ?_⟩
        refine ⟨ρ, ds, ρ1, H0, h1, E, fun vs H1 H01 T1 E1 r1 => ?_⟩
        exact hq ρ1 σ H01 H1 vs Q E1 r1 fun v H' H0' T E' r => q v H' H0' (T1.trans T) E' (r.via T1)
      · refine ⟨_, pe_callTy hr (gl_of K.toCOkB hg) (K.blt x _ hf) hb ha hn hd.1 (star_of hs.1) (star_plain hs.2), ?_⟩
        refine ⟨ρ, ds, ρ1, H0, h1, E, fun vs H1 H01 T1 E1 r1 => ?_⟩
        exact hq ρ1 σ H01 H1 vs Q E1 r1 fun v H' H0' T E' r => q v H' H0' (T1.trans T) E' (r.via T1)
    · cases hev
  · cases hev

/-! ### isinstance -/
def tyD : D → String
  | .none => "NoneType" | .bool _ => "bool" | .int _ => "int" | .str _ => "str" | .list _ => "list" | .tuple _ => "tuple" | .dict _ => "dict"
/-- an own exception -/
def excB : D → Bool
  | .dict [(.none, .str _)] => true
  | .dict [(.bool _, .none)] => true
  | _ => false
theorem tyD_ok {H0 H : Hp} {d : D} {x : V} (e : Ex H0 H) (hx : excB d = false) (r : Rep (Cx.G X) H0 d x) : TyX X.K H x (.type (tyD d)) := by
  cases d with
  | none => rw [r.non]; exact .base .non
  | bool b => rw [r.bl]; exact .base (.bl b)
  | int b => rw [r.int]; exact .base (.int b)
  | str b => rw [r.str]; exact .base (.str b)
  | list xs => obtain ⟨a, vs, rfl, h1, _⟩ := r.lst; exact .base (.lst (e _ _ h1))
  | tuple xs => obtain ⟨a, vs, rfl, h1 | ⟨o, h1⟩, _⟩ := r.tup
                · exact .base (.tup (e _ _ h1))
                · exact .fTuple (e _ _ h1)
  | dict _ =>
    simp only [Rep] at r
    unfold RepX at r
    split at r
    · simp [excB] at hx
    · obtain ⟨a, ks, rfl, h⟩ := r
      exact .base (.dK (e _ _ h))
    · simp [excB] at hx
    · obtain ⟨a, rfl, h⟩ := r
      exact .base (.dK (e _ _ h))
    · obtain ⟨a, rfl, h⟩ := r
      exact .base (.dK (e _ _ h))
    · exact r.elim
def tyName (x : Str) : Option String := if x = "int" then some "int" else if x = "bool" then some "bool" else if x = "tuple" then some "tuple" else if x = "str" then some "str" else if x = "list" then some "list" else none
def isTy (T : String) (d : D) : Bool := decide (tyD d = T) || (decide (T = "int") && decide (tyD d = "bool"))
theorem kit_ty {K : PySem.W.Frag} {d : D} {x : Str} {T : String} (h : tyName x = some T) : PySem.W.kitOne K (.type (tyD d)) (.type T) = some (isTy T d) := by
  unfold tyName at h
  repeat' split at h
  all_goals first
    | (cases h; done)
    | (cases h; cases d <;> (simp only [tyD, isTy]; kernel_rfl))
def isiE (T : String) (ea : Rho → Option (D × Rho)) (ρ : Rho) : Option (D × Rho) := match ea ρ with
  | some (d, ρ1) => if excB d then none else some (.bool (isTy T d), ρ1)
  | none => none
theorem tyName_boot {x : Str} {T : String} (h : tyName x = some T) (K : COk C sc k X) : bootBuiltins x = some (.type T) ∧ x ≠ "__name__" ∧ X.mg x = none := by
  unfold tyName at h
  obtain ⟨t1, t2, t3, t4, t5⟩ := K.tys
  repeat' split at h
  all_goals first
    | (cases h; done)
    | (rename_i e; cases h; subst e; exact ⟨by decide +kernel, by decide, by assumption⟩)
theorem pe_isiD (K : COk C sc k X) {a : Expr} {x : Str} {T : String} {pt : Pos} (hx : tyName x = some T) (hgx : globB sc x = true) (hdx : plainName x = true) (hg : globB sc "isinstance" = true) (hs : notStar a = true)
    {ea : Rho → Option (D × Rho)} (ha : PE X a (tD (Cx.G X) ea)) : PE X (.Call (.Name "isinstance" p) [a, .Name x pt] [] pos) (tD (Cx.G X) (isiE T ea)) := PE.of fun σ H Q q => by
  obtain ⟨hb, hn, hm⟩ := tyName_boot hx K
  simp only [plainName, Bool.and_eq_true, Bool.not_eq_true'] at hdx
  have hT : PE X (.Name x pt) (tC (.ty T)) := pe_bltn (gl_of K.toCOkB hgx) hm hb rfl hn hdx.1
  refine ⟨_, pe_callB call_isi (gl_of K.toCOkB hg) K.isi.1 (by decide +kernel) (pa_cons ha (pa_cons hT pa_nil) (star_of hs)) (by decide) (by decide) (star_of hs) (by rfl), ?_⟩
  obtain ⟨ρ, s, ρ', H0, hev, E, q⟩ := q
  unfold isiE at hev
  split at hev
  · rename_i d ρ1 h1
    split at hev
    · cases hev
    rename_i hx'
    simp only [Option.some.injEq, Prod.mk.injEq] at hev
    obtain ⟨rfl, rfl⟩ := hev
    refine ⟨ρ, d, ρ1, H0, h1, E, fun v H1 H01 T1 E1 r1 => ?_⟩
    exact ⟨v, .ty T, .type (tyD d), .type T, isTy T d, rfl, .ty T, tyD_ok E1.ex (by simpa using hx') r1, kit_ty hx, q _ _ _ T1 E1 (rep_bl _)⟩
  · cases hev
end
end Dv

set_option Elab.async false
set_option linter.all false
set_option maxRecDepth 100000
set_option maxHeartbeats 4000000
namespace Dv
open PySem PySem.Spec PyProof.Rows L2
variable [TabC]
/-! repr of data: none, truths, whole numbers, tuples and lists of such -/
mutual
/-- data all known: no thing of which only the kind is -/
def plainD : D → Bool
  | .dict [] => true
  | .dict [(.int _, .int _)] => true
  | .dict _ => false
  | .tuple ds => plainDs ds
  | .list ds => plainDs ds
  | _ => true
def plainDs : List D → Bool
  | [] => true
  | d :: ds => plainD d && plainDs ds
end
mutual
/-- no list within -/
def noLs : D → Bool
  | .list _ => false
  | .tuple ds => noLsA ds
  | _ => true
def noLsA : List D → Bool
  | [] => true
  | d :: ds => noLs d && noLsA ds
end
/-- what repr tells of -/
def showB : D → Bool
  | .none => true
  | .bool _ => true
  | .int i => decide (i.natAbs.log2 < 1920)
  | .str x => decide ((reprText x).length ≤ sizeLine)
  | d => d.showable && plainD d && decide (d.depth ≤ 64) && decide (d.shown.length ≤ sizeLine)
section
variable {X : L2.Cx} {pins : List (Addr × Obj)} {σ : L2.St} {H0 H : Hp} {s : Shared} {mg : Str → Option Value}
theorem kv_one {i j : Int} : ∀ {vs : List (Key × Value)}, KV [((Sum.inl i : Key), V.int j)] vs → ∃ t, vs = [(.inl i, Value.int j t)]
  | [(q1, q2)], .cons ⟨k3, k4⟩ .nil => by
    have k3 : (Sum.inl i : Key) = q1 := k3
    subst k3
    obtain ⟨t, e⟩ := (show ∃ t, q2 = Value.int j t from k4)
    subst e
    exact ⟨t, rfl⟩
mutual
theorem rep_reads (I : L2.Inv X pins σ H s) (ex : Ex H0 H) : ∀ (d : D) (v : V) (u : Value), plainD d = true → Rep (X.K, mg) H0 d v → RelV v u → ∃ as, Reads s.heap u d as ∧ (noLs d = true → sysModules ∉ as)
  | .none, _, _, _, h, r => by
    simp only [Rep] at h
    subst h
    cases (show _ = Value.none from r)
    exact ⟨[], .none, fun _ => by simp⟩
  | .bool b, _, _, _, h, r => by
    simp only [Rep] at h
    subst h
    cases (show _ = Value.bool b from r)
    exact ⟨[], .bool b, fun _ => by simp⟩
  | .int i, _, _, _, h, r => by
    simp only [Rep] at h
    subst h
    obtain ⟨t, e⟩ := (show ∃ t, _ = Value.int i t from r)
    subst e
    exact ⟨[], .int i t, fun _ => by simp⟩
  | .str x, _, _, _, h, r => by
    simp only [Rep] at h
    subst h
    obtain ⟨t, e⟩ := (show ∃ t, _ = Value.str x t from r)
    subst e
    exact ⟨[], .str x t, fun _ => by simp⟩
  | .dict kvs, v, u, hp, h, r => by
    simp only [Rep] at h
    unfold RepX at h
    split at h
    · simp [plainD] at hp
    · simp [plainD] at hp
    · simp [plainD] at hp
    · obtain ⟨a, rfl, h1⟩ := h
      cases (show u = Value.ref a from r)
      obtain ⟨_, hn, vs, kv, o, es, ep, g1, g2, g3, _, g5, _⟩ := I.hok a _ (ex a _ h1)
      cases kv
      have e0 : es.toList = [] := by
        cases hes : es.toList with
        | nil => rfl
        | cons e r => rw [hes] at g5; cases g5
      have ka : ReadsAll s.heap (es.toList.map (·.key)) ([].map (·.1 : D × D → D)) [] := by rw [e0]; exact .nil
      have va : ReadsAll s.heap (es.toList.map (·.val)) ([].map (·.2 : D × D → D)) [] := by rw [e0]; exact .nil
      exact ⟨_, .dict g1 g2.1 g3 ka va, fun _ hm => by
        simp only [List.append_nil, List.mem_singleton] at hm
        rw [← hm] at hn
        simp at hn⟩
    · rename_i i j
      obtain ⟨a, rfl, h1⟩ := h
      cases (show u = Value.ref a from r)
      obtain ⟨_, hn, vs, kv, o, es, ep, g1, g2, g3, _, g5, _⟩ := I.hok a _ (ex a _ h1)
      obtain ⟨t, rfl⟩ := kv_one kv
      cases hes : es.toList with
      | nil => rw [hes] at g5; cases g5
      | cons e r =>
        rw [hes] at g5
        cases g5 with
        | cons p1 p2 p3 =>
          have hr : r = [] := by cases p3; rfl
          subst hr
          rcases keyIs_shape (show keyIs (Sum.inl i) e.key = true from p1) with ⟨i', t', z1, z2⟩ | ⟨x', t', z1, z2⟩
          · cases z1
            have ka : ReadsAll s.heap (es.toList.map (·.key)) ([(PyData.int i, PyData.int j)].map (·.1)) ([] ++ []) := by
              rw [hes]
              show ReadsAll s.heap [e.key] [.int i] _
              rw [z2]
              exact .cons (.int i t') .nil
            have va : ReadsAll s.heap (es.toList.map (·.val)) ([(PyData.int i, PyData.int j)].map (·.2)) ([] ++ []) := by
              rw [hes]
              show ReadsAll s.heap [e.val] [.int j] _
              rw [p2]
              exact .cons (.int j t) .nil
            exact ⟨_, .dict g1 g2.1 g3 ka va, fun _ hm => by
              simp only [List.append_nil, List.mem_singleton] at hm
              rw [← hm] at hn
              simp at hn⟩
          · cases z1
    · exact h.elim
  | .tuple ds, v, u, hp, h, r => by
    simp only [Rep] at h
    obtain ⟨a, vs, rfl, h1, h2⟩ := h
    cases (show u = Value.ref a from r)
    obtain ⟨its, rv, ⟨⟨cls, dd, data, sl⟩, ho, hc, n, hd⟩, _⟩ := I.tuple (.inl (ex_rd ex h1.rd))
    simp only at hc hd
    subst hc hd
    obtain ⟨as, ra, hn⟩ := reps_reads I ex ds vs its (by simpa only [plainD] using hp) h2 rv
    exact ⟨as, .tuple ho rfl rfl (by simpa using ra), fun hl => hn (by simpa only [noLs] using hl)⟩
  | .list ds, v, u, hp, h, r => by
    simp only [Rep] at h
    obtain ⟨a, vs, rfl, h1, h2⟩ := h
    cases (show u = Value.ref a from r)
    obtain ⟨_, its, n, rv, ho⟩ := I.hok a _ (ex a _ h1)
    obtain ⟨as, ra, _⟩ := reps_reads I ex ds vs its (by simpa only [plainD] using hp) h2 rv
    exact ⟨_, .list ho rfl rfl (by simpa using ra), fun hl => by simp [noLs] at hl⟩
theorem reps_reads (I : L2.Inv X pins σ H s) (ex : Ex H0 H) : ∀ (ds : List D) (vs : List V) (us : List Value), plainDs ds = true → Reps (X.K, mg) H0 ds vs → Vals vs us → ∃ as, ReadsAll s.heap us ds as ∧ (noLsA ds = true → sysModules ∉ as)
  | [], _, _, _, h, r => by
    simp only [Reps] at h
    subst h
    cases r
    exact ⟨[], .nil, fun _ => by simp⟩
  | d :: ds, _, _, hp, h, r => by
    simp only [Reps] at h
    obtain ⟨w, ws, rfl, h1, h2⟩ := h
    simp only [plainDs, Bool.and_eq_true] at hp
    cases r with
    | cons r1 r2 =>
      obtain ⟨as, a1, n1⟩ := rep_reads I ex d w _ hp.1 h1 r1
      obtain ⟨bs, b1, n2⟩ := reps_reads I ex ds ws _ hp.2 h2 r2
      refine ⟨as ++ bs, .cons a1 b1, fun hl hm => ?_⟩
      simp only [noLsA, Bool.and_eq_true] at hl
      rcases List.mem_append.mp hm with z | z
      · exact n1 hl.1 z
      · exact n2 hl.2 z
end
end
/-! repr of data: only a dict must not lie where the machine's own modules do -/
section
variable {X : L2.Cx} {pins : List (Addr × Obj)} {σ : L2.St} {H0 H : Hp} {s : Shared} {mg : Str → Option Value}
theorem atMost_app {h : Heap} {n m : Nat} {bs cs : List Addr} (h1 : ReadAtMost h n bs) (h2 : ReadAtMost h m cs) : ReadAtMost h (max n m) (bs ++ cs) := (h1.mono (Nat.le_max_left n m)).append (h2.mono (Nat.le_max_right n m))
theorem tupS {a : Addr} {o : Obj} {vs : Array Value} {n : Nat} {ds : List D} {as bs : List Addr} (h1 : s.heap.get? a = some o) (h2 : o.cls = .type "tuple") (h3 : o.data = .seq vs n) (ra : ReadsAll s.heap vs.toList ds as) (hb : ReadAtMost s.heap (PyData.depthAll ds) bs) (hk : ReprAllK X.prog X.w bs s.heap (PyData.depthAll ds) vs.toList (PyData.shownAll ds)) :
    ∃ cs, ReadAtMost s.heap (PyData.tuple ds).depth cs ∧ ReprK X.prog X.w cs s.heap (PyData.tuple ds).depth (.ref a) (PyData.tuple ds).shown := by
  have r : Reads s.heap (.ref a) (.tuple ds) as := .tuple h1 h2 h3 ra
  have na := not_mem_of_deeper r (n := PyData.depthAll ds) (by simp only [PyData.depth]; omega) hb
  refine ⟨_, ReadAtMost.cons r (n := PyData.depthAll ds) (by simp only [PyData.depth]; omega) hb, ?_⟩
  simp only [PyData.depth, PyData.shown]
  exact ReprK.tuple h1 h2 h3 na hk
theorem lstS {a : Addr} {o : Obj} {vs : Array Value} {n : Nat} {ds : List D} {as bs : List Addr} (h1 : s.heap.get? a = some o) (h2 : o.cls = .type "list") (h3 : o.data = .seq vs n) (ra : ReadsAll s.heap vs.toList ds as) (hb : ReadAtMost s.heap (PyData.depthAll ds) bs) (hk : ReprAllK X.prog X.w bs s.heap (PyData.depthAll ds) vs.toList (PyData.shownAll ds)) :
    ∃ cs, ReadAtMost s.heap (PyData.list ds).depth cs ∧ ReprK X.prog X.w cs s.heap (PyData.list ds).depth (.ref a) (PyData.list ds).shown := by
  have r : Reads s.heap (.ref a) (.list ds) (a :: as) := .list h1 h2 h3 ra
  have na := not_mem_of_deeper r (n := PyData.depthAll ds) (by simp only [PyData.depth]; omega) hb
  refine ⟨_, ReadAtMost.cons r (n := PyData.depthAll ds) (by simp only [PyData.depth]; omega) hb, ?_⟩
  simp only [PyData.depth, PyData.shown]
  obtain ⟨l⟩ := vs
  cases l with
  | nil =>
    have ra : ReadsAll s.heap [] ds as := ra
    cases ra
    simp only [PyData.shownAll, listText_nil]
    exact ReprK.listEmpty h1 h2 h3
  | cons x l =>
    have len := hk.length_eq
    exact ReprK.list h1 h2 h3 na (by simpa using len) fun i y e => hk.item i y (by simpa using e)
mutual
theorem rep_shows (I : L2.Inv X pins σ H s) (ex : Ex H0 H) : ∀ (d : D) (v : V) (u : Value), plainD d = true → Rep (X.K, mg) H0 d v → RelV v u → d.showable = true → d.shown.length ≤ sizeLine →
    ∃ as bs, Reads s.heap u d as ∧ ReadAtMost s.heap d.depth bs ∧ ReprK X.prog X.w bs s.heap d.depth u d.shown
  | .tuple ds, v, u, hp, h, r, hs, hz => by
    simp only [Rep] at h
    obtain ⟨a, vs, rfl, h1, h2⟩ := h
    cases (show u = Value.ref a from r)
    obtain ⟨its, rv, ⟨o, ho, hc, n, hd⟩, _⟩ := I.tuple (.inl (ex_rd ex h1.rd))
    have hz' : (tupleText (PyData.shownAll ds)).length ≤ sizeLine := by simpa only [PyData.shown] using hz
    obtain ⟨as, bs, ra, hb, hk⟩ := reps_shows I ex ds vs its (by simpa only [plainD] using hp) h2 rv (by simpa only [PyData.showable] using hs) fun t ht => Nat.le_trans (tupleText_mem_le ht) hz'
    obtain ⟨cs, c1, c2⟩ := tupS (X := X) ho hc hd (by simpa using ra) hb (by simpa using hk)
    exact ⟨as, cs, .tuple ho hc hd (by simpa using ra), c1, c2⟩
  | .list ds, v, u, hp, h, r, hs, hz => by
    simp only [Rep] at h
    obtain ⟨a, vs, rfl, h1, h2⟩ := h
    cases (show u = Value.ref a from r)
    obtain ⟨_, its, n, rv, ho⟩ := I.hok a _ (ex a _ h1)
    have hz' : (listText (PyData.shownAll ds)).length ≤ sizeLine := by simpa only [PyData.shown] using hz
    obtain ⟨as, bs, ra, hb, hk⟩ := reps_shows I ex ds vs its (by simpa only [plainD] using hp) h2 rv (by simpa only [PyData.showable] using hs) fun t ht => Nat.le_trans (listText_mem_le ht) hz'
    obtain ⟨cs, c1, c2⟩ := lstS (X := X) ho rfl rfl (by simpa using ra) hb (by simpa using hk)
    exact ⟨_, cs, .list ho rfl rfl (by simpa using ra), c1, c2⟩
  | .none, v, u, hp, h, r, hs, hz => by
    obtain ⟨as, r1, hn⟩ := rep_reads I ex .none v u hp h r
    obtain ⟨bs, b1, b2⟩ := ReprK.of_reads (prog := X.prog) (w := X.w) r1 hs (fun _ => hn rfl) hz
    exact ⟨as, bs, r1, b1, b2⟩
  | .bool b, v, u, hp, h, r, hs, hz => by
    obtain ⟨as, r1, hn⟩ := rep_reads I ex (.bool b) v u hp h r
    obtain ⟨bs, b1, b2⟩ := ReprK.of_reads (prog := X.prog) (w := X.w) r1 hs (fun _ => hn rfl) hz
    exact ⟨as, bs, r1, b1, b2⟩
  | .int i, v, u, hp, h, r, hs, hz => by
    obtain ⟨as, r1, hn⟩ := rep_reads I ex (.int i) v u hp h r
    obtain ⟨bs, b1, b2⟩ := ReprK.of_reads (prog := X.prog) (w := X.w) r1 hs (fun _ => hn rfl) hz
    exact ⟨as, bs, r1, b1, b2⟩
  | .str x, v, u, hp, h, r, hs, hz => by
    obtain ⟨as, r1, hn⟩ := rep_reads I ex (.str x) v u hp h r
    obtain ⟨bs, b1, b2⟩ := ReprK.of_reads (prog := X.prog) (w := X.w) r1 hs (fun _ => hn rfl) hz
    exact ⟨as, bs, r1, b1, b2⟩
  | .dict kvs, v, u, hp, h, r, hs, hz => by
    obtain ⟨as, r1, hn⟩ := rep_reads I ex (.dict kvs) v u hp h r
    obtain ⟨bs, b1, b2⟩ := ReprK.of_reads (prog := X.prog) (w := X.w) r1 hs (fun _ => hn rfl) hz
    exact ⟨as, bs, r1, b1, b2⟩
theorem reps_shows (I : L2.Inv X pins σ H s) (ex : Ex H0 H) : ∀ (ds : List D) (vs : List V) (us : List Value), plainDs ds = true → Reps (X.K, mg) H0 ds vs → Vals vs us → PyData.showableAll ds = true → (∀ t ∈ PyData.shownAll ds, t.length ≤ sizeLine) →
    ∃ as bs, ReadsAll s.heap us ds as ∧ ReadAtMost s.heap (PyData.depthAll ds) bs ∧ ReprAllK X.prog X.w bs s.heap (PyData.depthAll ds) us (PyData.shownAll ds)
  | [], _, _, _, h, r, _, _ => by
    simp only [Reps] at h
    subst h
    cases r
    exact ⟨[], [], .nil, (fun _ h => (by cases h)), by simp only [PyData.shownAll]; exact .nil⟩
  | d :: ds, _, _, hp, h, r, hs, hz => by
    simp only [Reps] at h
    obtain ⟨w, ws, rfl, h1, h2⟩ := h
    simp only [plainDs, Bool.and_eq_true] at hp
    simp only [PyData.showableAll, Bool.and_eq_true] at hs
    simp only [PyData.shownAll, List.mem_cons] at hz
    cases r with
    | cons r1 r2 =>
      obtain ⟨as, b1, a1, m1, k1⟩ := rep_shows I ex d w _ hp.1 h1 r1 hs.1 (hz _ (.inl rfl))
      obtain ⟨bs, b2, a2, m2, k2⟩ := reps_shows I ex ds ws _ hp.2 h2 r2 hs.2 fun t ht => hz t (.inr ht)
      refine ⟨as ++ bs, b1 ++ b2, .cons a1 a2, by simp only [PyData.depthAll]; exact atMost_app m1 m2, ?_⟩
      simp only [PyData.depthAll, PyData.shownAll]
      exact .cons ((k1.more fun _ z => List.mem_append_left b2 z).level_le (Nat.le_max_left _ _)) (k2.more_le (fun _ z => List.mem_append_right b1 z) (Nat.le_max_right _ _))
end
theorem shows_row (I : L2.Inv X pins σ H s) (ex : Ex H0 H) {d : D} {a : Addr} (hd : plainD d = true) (h : Rep (X.K, mg) H0 d (.ref a)) (hs : d.showable = true) (hz : d.shown.length ≤ sizeLine) : ∃ T idr, ShowsBy X.prog X.w s.heap a d T idr := by
  cases d with
  | none => have := Rep.non (G := (X.K, mg)) (H := H0) h; cases this
  | bool b => have := Rep.bl (G := (X.K, mg)) (H := H0) h; cases this
  | int i => have := Rep.int (G := (X.K, mg)) (H := H0) h; cases this
  | str x => have := Rep.str (G := (X.K, mg)) (H := H0) h; cases this
  | dict kvs =>
    obtain ⟨as, r1, hn⟩ := rep_reads I ex (.dict kvs) _ (.ref a) hd h rfl
    exact showsBy_of_reads r1 hs (fun _ => hn rfl) hz
  | tuple ds =>
    simp only [Rep] at h
    obtain ⟨a', vs, e, h1, h2⟩ := h
    cases e
    obtain ⟨its, rv, ⟨o, ho, hc, n, hdt⟩, _⟩ := I.tuple (.inl (ex_rd ex h1.rd))
    have hz' : (tupleText (PyData.shownAll ds)).length ≤ sizeLine := by simpa only [PyData.shown] using hz
    obtain ⟨as, bs, ra, hb, hk⟩ := reps_shows I ex ds vs its (by simpa only [plainD] using hd) h2 rv (by simpa only [PyData.showable] using hs) fun t ht => Nat.le_trans (tupleText_mem_le ht) hz'
    have r : Reads s.heap (.ref a) (.tuple ds) as := .tuple ho hc hdt (by simpa using ra)
    have na := not_mem_of_deeper r (n := PyData.depthAll ds) (by simp only [PyData.depth]; omega) hb
    refine ⟨"tuple", "tuple.__repr__", ⟨F.slot_tuple_repr, F.slot_tuple_str, F.slot_tuple_format, fun s hk0 => ⟨o, hk0 _ _ ho, hc⟩, fun A E s Q hg hu hk0 hQ => ?_⟩⟩
    simp only [PyData.depth] at hu
    simp only [PyData.shown] at hQ
    exact call_tuple_reprK ho hc hdt na (by simpa using hk) hg (fun b _ => Clear.nil b) hu hk0 hQ hz'
  | list ds =>
    simp only [Rep] at h
    obtain ⟨a', vs, e, h1, h2⟩ := h
    cases e
    obtain ⟨_, its, n, rv, ho⟩ := I.hok a _ (ex a _ h1)
    have hz' : (listText (PyData.shownAll ds)).length ≤ sizeLine := by simpa only [PyData.shown] using hz
    obtain ⟨as, bs, ra, hb, hk⟩ := reps_shows I ex ds vs its (by simpa only [plainD] using hd) h2 rv (by simpa only [PyData.showable] using hs) fun t ht => Nat.le_trans (listText_mem_le ht) hz'
    have r : Reads s.heap (.ref a) (.list ds) (a :: as) := .list ho rfl rfl (by simpa using ra)
    have na := not_mem_of_deeper r (n := PyData.depthAll ds) (by simp only [PyData.depth]; omega) hb
    refine ⟨"list", "list.__repr__", ⟨F.slot_list_repr.toG, F.slot_list_str, F.slot_list_format, fun s hk0 => ⟨_, hk0 _ _ ho, rfl⟩, fun A E s Q hg hu hk0 hQ => ?_⟩⟩
    simp only [PyData.depth] at hu
    simp only [PyData.shown] at hQ
    cases its with
    | nil =>
      cases ra
      simp only [PyData.shownAll, listText_nil] at hQ
      exact call_list_repr_empty ⟨_, hk0 _ _ ho, rfl⟩ (hk0 _ _ ho) rfl (hQ s.heap _ _ fun _ _ e => e)
    | cons x l =>
      have len := hk.length_eq
      exact call_list_reprK ho rfl rfl na (by simpa using len) (fun i y e => hk.item i y (by simpa using e)) hg (fun b _ => Clear.nil b) hu hk0 hQ hz'
end
section
variable {X : L2.Cx} {C : Cf} {sc : Scope} {k : Nat} {pos p : Pos}
def rRep (K : PySem.W.Frag) (xs : List V) (H : Hp) (Q : VK) : Prop := ∃ x d mg H0, xs = [x] ∧ Ex H0 H ∧ Rep (K, mg) H0 d x ∧ showB d = true ∧ Q (.str d.shown) H
theorem cr_repr (hg : X.A.guards = some []) (hu : X.A.units + 200 < cLine) : CallR X (.builtin "repr") (rRep X.K) := by
  intro pins s σ H xs us Q I r h
  obtain ⟨x, d, mg, H0, rfl, ex, hd, hs, q⟩ := h
  obtain ⟨u, rfl, rx⟩ := vals1 r
  have fin : ∀ h' u tk, (∀ b o, s.heap.get? b = some o → h'.get? b = some o) → EP X pins σ Q (.str d.shown u) { s with heap := h', toks := tk } := fun h' u tk hk => ⟨.str d.shown, H, I.kept hk, ⟨u, rfl⟩, q⟩
  have big : ∀ a, x = V.ref a → u = Value.ref a → d.showable = true → plainD d = true → d.depth ≤ 64 → d.shown.length ≤ sizeLine → wpAny (model X.prog X.w) X.A (call (.builtin "repr") [u]) (EP X pins σ Q) X.xe s := fun a e1 e h1 h2 h4 h5 => by
    subst e1 e
    obtain ⟨T, idr, S⟩ := shows_row I ex h2 hd h1 h5
    exact call_repr_slot (by omega) (S.typeIs s fun _ _ e => e) S.slotRepr (S.call X.A.in1 X.xe s _ hg (by show X.A.units + 1 + d.depth < cLine; omega) (fun _ _ e => e) fun h' u tk hk => ⟨_, _, rfl, fin h' u tk hk⟩)
  cases d with
  | none =>
    simp only [Rep] at hd
    subst hd
    cases (show u = Value.none from rx)
    exact PySem.P.repr_of_none (fin s.heap _ _ fun _ _ e => e)
  | bool b =>
    simp only [Rep] at hd
    subst hd
    cases (show u = Value.bool b from rx)
    refine PySem.P.repr_of_bool ?_
    have z := fin s.heap s.toks (s.toks + 1) fun _ _ e => e
    cases b <;> exact z
  | int i =>
    simp only [Rep] at hd
    subst hd
    obtain ⟨t, e⟩ := (show ∃ t, u = Value.int i t from rx)
    cases e
    have hl : i.natAbs.log2 < 1920 := by simpa [showB] using hs
    exact PySem.P.repr_of_int hl (fin s.heap _ _ fun _ _ e => e)
  | str y =>
    simp only [Rep] at hd
    subst hd
    obtain ⟨t, e⟩ := (show ∃ t, u = Value.str y t from rx)
    cases e
    have hl : (reprText y).length ≤ sizeLine := by simpa [showB] using hs
    exact PySem.P.repr_of_str (fin s.heap _ _ fun _ _ e => e) hl
  | dict kvs =>
    simp only [showB, Bool.and_eq_true, decide_eq_true_eq] at hs
    have hr := hd
    simp only [Rep] at hr
    obtain ⟨a, rfl⟩ := hr.ref
    exact big a rfl rx hs.1.1.1 hs.1.1.2 hs.1.2 hs.2
  | tuple ds =>
    simp only [showB, Bool.and_eq_true, decide_eq_true_eq] at hs
    have hr := hd
    simp only [Rep] at hr
    obtain ⟨a, vs, rfl, _⟩ := hr
    exact big a rfl rx hs.1.1.1 hs.1.1.2 hs.1.2 hs.2
  | list ds =>
    simp only [showB, Bool.and_eq_true, decide_eq_true_eq] at hs
    have hr := hd
    simp only [Rep] at hr
    obtain ⟨a, vs, rfl, _⟩ := hr
    exact big a rfl rx hs.1.1.1 hs.1.1.2 hs.1.2 hs.2
def repE (ea : Rho → Option (D × Rho)) (ρ : Rho) : Option (D × Rho) := match ea ρ with
  | some (d, ρ1) => if showB d = true then some (.str d.shown, ρ1) else none
  | none => none
theorem pe_repr (K : COk C sc k X) (hrp : C.tt.rp = true) (hg : globB sc "repr" = true) {a : Expr} (hs : notStar a = true) {ea : Rho → Option (D × Rho)} (ha : PE X a (tD (Cx.G X) ea)) :
    PE X (.Call (.Name "repr" p) [a] [] pos) (tD (Cx.G X) (repE ea)) := PE.of fun σ H Q q => by
  obtain ⟨g1, g2⟩ := K.rp hrp
  refine ⟨_, pe_callB (cr_repr g1 (by have := K.room.un; omega)) (gl_of K.toCOkB hg) g2 (by decide +kernel) (pa_cons ha pa_nil (star_of hs)) (by decide) (by decide) (star_of hs) (by rfl), ?_⟩
  obtain ⟨ρ, s, ρ', H0, hev, E, q⟩ := q
  unfold repE at hev
  split at hev
  · rename_i d ρ1 h1
    split at hev
    · rename_i hd
      simp only [Option.some.injEq, Prod.mk.injEq] at hev
      obtain ⟨rfl, rfl⟩ := hev
      exact ⟨ρ, d, ρ1, H0, h1, E, fun v H1 H01 T1 E1 r1 => ⟨v, d, _, H01, rfl, E1.ex, r1, hd, q _ _ _ T1 E1 (rep_str _)⟩⟩
    · cases hev
  · cases hev
end
end Dv

set_option Elab.async false
set_option linter.all false
set_option maxRecDepth 100000
set_option maxHeartbeats 4000000
namespace Dv
open PySem L2
variable [TabC]

mutual
def noList : PyData → Bool
  | .list _ => false
  | .dict _ => false
  | .tuple xs => noLists xs
  | _ => true
def noLists : List PyData → Bool
  | [] => true
  | x :: xs => noList x && noLists xs
end
mutual
theorem Rep.del {G : Ctx} {H : Hp} {a : Addr} {bv : List V} (ha : H a = some (.lst bv)) : ∀ {d : D} {v : V}, noList d = true → Rep G H d v → Rep G (delH H a) d v
  | .none, _, _, h => by simpa only [Rep] using h
  | .bool b, _, _, h => by simpa only [Rep] using h
  | .int i, _, _, h => by simpa only [Rep] using h
  | .str x, _, _, h => by simpa only [Rep] using h
  | .dict x, _, n, h => by simp [noList] at n
  | .list x, _, n, h => by simp [noList] at n
  | .tuple ds, _, n, h => by
    simp only [noList] at n
    simp only [Rep] at h ⊢
    obtain ⟨p, vs, e1, h1, h2⟩ := h
    obtain ⟨o, h1, h0⟩ := h1
    have hp : p ≠ a := fun z => by rw [z, ha] at h1; cases h1
    have h3 : TpO (delH H a) p vs := ⟨o, by rw [delH_ne hp]; exact h1, h0⟩
    exact ⟨p, vs, e1, h3, Reps.del ha n h2⟩
theorem Reps.del {G : Ctx} {H : Hp} {a : Addr} {bv : List V} (ha : H a = some (.lst bv)) : ∀ {ds : List D} {vs : List V}, noLists ds = true → Reps G H ds vs → Reps G (delH H a) ds vs
  | [], _, _, h => by simpa only [Reps] using h
  | d :: ds, _, n, h => by
    simp only [noLists, Bool.and_eq_true] at n
    simp only [Reps] at h ⊢
    obtain ⟨w, ws, e1, h1, h2⟩ := h
    exact ⟨w, ws, e1, Rep.del ha n.1 h1, Reps.del ha n.2 h2⟩
end

inductive Arg where
  | v (s : Sl) | br (i : Nat)
def RA (G : Ctx) (σ : St) (H0 : Hp) : Arg → V → Prop
  | .v s, x => RArg G H0 s x
  | .br i, x => σ[i]? = some (some x)
def RAs (G : Ctx) (σ : St) (H0 : Hp) : List Arg → List V → Prop
  | [], vs => vs = []
  | d :: ds, vs => ∃ w ws, vs = w :: ws ∧ RA G σ H0 d w ∧ RAs G σ H0 ds ws
theorem RA.ex {G : Ctx} {σ : St} {H H' : Hp} (e : Ex H H') {a : Arg} {x : V} (h : RA G σ H a x) : RA G σ H' a x := by
  cases a with
  | v s => exact RArg.ex e h
  | br i => exact h
theorem RAs.ex {G : Ctx} {σ : St} {H H' : Hp} (e : Ex H H') : ∀ {as : List Arg} {vs : List V}, RAs G σ H as vs → RAs G σ H' as vs
  | [], _, h => h
  | d :: ds, _, h => by
    obtain ⟨w, ws, e1, h1, h2⟩ := h
    exact ⟨w, ws, e1, RA.ex e h1, RAs.ex e h2⟩
theorem RAs.length {G : Ctx} {σ : St} {H : Hp} : ∀ {as : List Arg} {vs : List V}, RAs G σ H as vs → as.length = vs.length
  | [], _, h => by rw [show _ = _ from h]; rfl
  | d :: ds, _, h => by
    obtain ⟨w, ws, e1, h1, h2⟩ := h
    subst e1
    simp [RAs.length h2]

def tAs (G : Ctx) (ev : Rho → Option (List Arg × Rho)) : TA := fun σ H Q => ∃ ρ as ρ' H0, ev ρ = some (as, ρ') ∧ REnv G ρ σ H0 H ∧
  ∀ vs H' H0', Tr ρ σ H0 H ρ' σ H0' H' → REnv G ρ' σ H0' H' → RAs G σ H0' as vs → Q vs H'
/-- an argument's value; a list of one's own is given up -/
def toArg : Option (Sl × Rho) → Option (Arg × Rho)
  | some (.im d, ρ) => some (.v (.im d), ρ)
  | some (.ow xs, ρ) => some (.v (.im (.list xs)), ρ)
  | some (.fn x, ρ) => some (.v (.fn x), ρ)
  | some (.fz x, ρ) => some (.v (.fz x), ρ)
  | some (.tt x, ρ) => some (.v (.tt x), ρ)
  | none => none
/-- .. is lent -/
def lend (C : Cf) (sc : Scope) (ρ : Rho) : Expr → Option Nat
  | .Name x _ => match slotE C sc x with
    | some i => match ρ[i]? with
      | some (some (.ow _)) => some i
      | _ => none
    | none => none
  | _ => none
def argE (ln : Bool) (C : Cf) (sc : Scope) (ev : Rho → Expr → Option (Sl × Rho)) (e : Expr) (ρ : Rho) : Option (Arg × Rho) :=
  match (if ln then lend C sc ρ e else none) with
  | some i => some (.br i, ρ)
  | none => toArg (ev ρ e)
def argsE (ln : Bool) (C : Cf) (sc : Scope) (ev : Rho → Expr → Option (Sl × Rho)) : List Expr → Rho → Option (List Arg × Rho)
  | [], ρ => some ([], ρ)
  | e :: es, ρ => if notStar e then
      match argE ln C sc ev e ρ with
      | some (d, ρ1) => match argsE ln C sc ev es ρ1 with
        | some (ds, ρ2) => some (d :: ds, ρ2)
        | none => none
      | none => none
    else none
section
variable {X : L2.Cx} {C : Cf} {sc : Scope} {k : Nat} {pos p : Pos}
theorem lend_eq {ρ : Rho} {e : Expr} {i : Nat} (h : lend C sc ρ e = some i) : ∃ x pos xs, e = .Name x pos ∧ slotE C sc x = some i ∧ ρ[i]? = some (some (.ow xs)) := by
  unfold lend at h
  split at h
  · split at h
    · rename_i hs
      split at h
      · rename_i hx
        cases h
        exact ⟨_, _, _, rfl, hs, hx⟩
      · cases h
    · cases h
  · cases h
theorem toArg_run {σ : St} {G : Ctx} {r : Option (Sl × Rho)} {a : Arg} {ρ ρ' : Rho} {H0 H : Hp} (h : toArg r = some (a, ρ')) : ∃ s, r = some (s, ρ') ∧
    ∀ v H' H0', Tr ρ σ H0 H ρ' σ H0' H' → REnv G ρ' σ H0' H' → RSl G ρ σ H ρ' H0' H' s v → ∃ H02, Tr ρ σ H0 H ρ' σ H02 H' ∧ REnv G ρ' σ H02 H' ∧ RA G σ H02 a v := by
  unfold toArg at h
  split at h
  · cases h; exact ⟨_, rfl, fun v H' H0' T E r => ⟨H0', T, E, r⟩⟩
  · cases h
    refine ⟨_, rfl, fun v H' H0' T E r => ?_⟩
    obtain ⟨a, vs, rfl, h1, h2, h3, h4, h5⟩ := r
    exact ⟨_, T.freezeA h2 h5, E.freezeA h1 h2 h4, rep_lst upd_same (h3.ex (Ex.new h2))⟩
  · cases h; exact ⟨_, rfl, fun v H' H0' T E r => ⟨H0', T, E, r⟩⟩
  · cases h; exact ⟨_, rfl, fun v H' H0' T E r => ⟨H0', T, E, r⟩⟩
  · cases h; exact ⟨_, rfl, fun v H' H0' T E r => ⟨H0', T, E, r⟩⟩
  · cases h
theorem pa_args (K : COk C sc k X) {ln : Bool} {ev : Rho → Expr → Option (Sl × Rho)} (h : ∀ e, PE X e (tS (Cx.G X) fun ρ => ev ρ e)) : ∀ es, PA X es (tAs (Cx.G X) (argsE ln C sc ev es))
  | [] => PA.of fun σ H Q q => by
    obtain ⟨ρ, ds, ρ', H0, hev, E, q⟩ := q
    simp only [argsE, Option.some.injEq, Prod.mk.injEq] at hev
    obtain ⟨rfl, rfl⟩ := hev
    exact ⟨_, pa_nil, q [] H H0 (Tr.refl _ _ _ _) E rfl⟩
  | e :: es => PA.of fun σ H Q q => by
    obtain ⟨ρ, ds, ρ', H0, hev, E, q⟩ := q
    simp only [argsE] at hev
    split at hev
    · rename_i hn
      split at hev
      · rename_i d ρ1 h1
        split at hev
        · rename_i ds' ρ2 h2
          simp only [Option.some.injEq, Prod.mk.injEq] at hev
          obtain ⟨rfl, rfl⟩ := hev
          unfold argE at h1
          split at h1
          · rename_i i hi
            simp only [Option.some.injEq, Prod.mk.injEq] at h1
            obtain ⟨rfl, rfl⟩ := h1
            split at hi
            · obtain ⟨x, px, xs, rfl, hs, hx⟩ := lend_eq hi
              obtain ⟨a, vs0, e1, _⟩ := E.ow i xs hx
              refine ⟨_, pa_cons (slot_pe K.toCOkB hs) (pa_args (ln := ln) K h es) (star_of hn), ?_⟩
              refine ⟨_, e1, ρ, ds', ρ2, H0, h2, E, fun vs H2 H02 T2 E2 r2 => ?_⟩
              exact q (_ :: vs) H2 H02 T2 E2 ⟨_, _, rfl, e1, r2⟩
            · cases hi
          · obtain ⟨s, hs, hq⟩ := toArg_run (σ := σ) (G := Cx.G X) (ρ := ρ) (H0 := H0) (H := H) h1
            refine ⟨_, pa_cons (h e) (pa_args (ln := ln) K h es) (star_of hn), ?_⟩
            refine ⟨ρ, s, ρ1, H0, hs, E, fun v H1 H01 T1 E1 r1 => ?_⟩
            obtain ⟨H02, T1', E1', r1'⟩ := hq v H1 H01 T1 E1 r1
            refine ⟨ρ1, ds', ρ2, H02, h2, E1', fun vs H2 H03 T2 E2 r2 => ?_⟩
            exact q (v :: vs) H2 H03 (T1'.trans T2) E2 ⟨_, _, rfl, RA.ex T2.ex r1', r2⟩
        · cases hev
      · cases hev
    · cases hev

/-! ### behind a def's call -/
theorem own_tracked {G : Ctx} {ρ : Rho} {σ : St} {H0 H : Hp} (E : REnv G ρ σ H0 H) {a : Addr} (h : Own ρ σ a) : ∃ vs, H a = some (.lst vs) ∧ H0 a = none := by
  obtain ⟨i, xs, e1, e2⟩ := h
  obtain ⟨b, vs, h1, h2, h3, _⟩ := E.ow i xs e1
  rw [e2] at h1; cases h1
  exact ⟨vs, h2, h3⟩
theorem after_none {G : Ctx} {ρ : Rho} {σ : St} {H0 H H0' H' : Hp} {s : Sl} {v : V} (E : REnv G ρ σ H0 H) (T : TrF none H0 H H0' H') (r : RetOk G H H0' H' s v) :
    Tr ρ σ H0 H ρ σ H0' H' ∧ REnv G ρ σ H0' H' ∧ RSl G ρ σ H ρ H0' H' s v := by
  refine ⟨⟨T.ex, fun a o h nt n no => T.fr' a o h nt n (fun z => nomatch z), fun a h => .inl h, T.kp⟩, ⟨T.tb, T.ex', E.len, fun i d e => ?_, E.fn, fun i ns e => ?_, fun i ns e => ?_, fun i xs e => ?_, E.ap⟩, ?_⟩
  · obtain ⟨w, h1, h2⟩ := E.im i d e
    exact ⟨w, h1, h2.ex T.ex⟩
  · exact (E.fz i ns e).imp fun a h => ⟨h.1, ex_l T.ex h.2⟩
  · exact (E.tt i ns e).imp fun a h => ⟨h.1, h.2.ex T.ex⟩
  · obtain ⟨a, vs, h1, h2, h3, h4⟩ := E.ow i xs e
    obtain ⟨f1, f2⟩ := T.fr a _ h2 h3 (fun z => nomatch z)
    exact ⟨a, vs, h1, f1, f2, h4.ex T.ex⟩
  · cases s with
    | im d => exact r
    | ow xs =>
      obtain ⟨a, vs, e, h1, h2, h3, h4⟩ := r
      refine ⟨a, vs, e, h1, h2, h3, fun o => ?_, .inr h4⟩
      obtain ⟨us, z, _⟩ := own_tracked E o
      exact h4.not z
    | fn x => exact r.elim
    | fz x => exact r.elim
    | tt x => exact r
theorem after_lent {G : Ctx} {ρ : Rho} {σ : St} {H0 H H0' H' : Hp} {d : D} {v : V} {i : Nat} {xs : List D} {a : Addr} {bv : List V} (E : REnv G ρ σ H0 H) (hi : ρ[i]? = some (some (.ow xs))) (ha : σ[i]? = some (some (.ref a))) (hb : H a = some (.lst bv)) (h0 : H0 a = none)
    (T : TrF none (upd H0 a (.lst bv)) H H0' H') (hd : noList d = true) (r : Rep G H0' d v) :
    Tr ρ σ H0 H ρ σ (delH H0' a) H' ∧ REnv G ρ σ (delH H0' a) H' ∧ RSl G ρ σ H ρ (delH H0' a) H' (.im d) v := by
  have hA : H0' a = some (.lst bv) := T.ex _ _ upd_same
  have ex : Ex H0 (delH H0' a) := fun b o e => by
    have hb' : b ≠ a := fun z => by rw [z, h0] at e; cases e
    rw [delH_ne hb']
    exact T.ex _ _ (by rw [upd_ne hb']; exact e)
  have exd : Ex (delH H0' a) H' := fun b o e => by
    by_cases hb' : b = a
    · subst hb'; rw [delH_same] at e; cases e
    · rw [delH_ne hb'] at e; exact T.ex' _ _ e
  refine ⟨⟨ex, fun b o h nt n no => ?_, fun a h => .inl h, T.kp⟩, ⟨⟨T.tb.1, fun q ps hq => by
      by_cases z : q = a
      · subst z; rw [delH_same] at hq; cases hq
      · rw [delH_ne z] at hq; exact T.tb.2 q ps hq⟩, exd, E.len, fun j d e => ?_, E.fn, fun j ns e => ?_, fun j ns e => ?_, fun j ys e => ?_, E.ap⟩, Rep.del hA hd r⟩
  · have hb' : b ≠ a := fun z => no ⟨i, xs, hi, by rw [z]; exact ha⟩
    obtain ⟨f1, f2⟩ := T.fr' b o h nt (by rw [upd_ne hb']; exact n) (fun z => nomatch z)
    exact ⟨f1, by rw [delH_ne hb']; exact f2⟩
  · obtain ⟨w, h1, h2⟩ := E.im j d e
    exact ⟨w, h1, h2.ex ex⟩
  · exact (E.fz j ns e).imp fun a h => ⟨h.1, ex_l ex h.2⟩
  · exact (E.tt j ns e).imp fun a h => ⟨h.1, h.2.ex ex⟩
  · obtain ⟨b, vs, h1, h2, h3, h4⟩ := E.ow j ys e
    by_cases hb' : b = a
    · subst hb'
      rw [hb] at h2; cases h2
      exact ⟨b, bv, h1, T.ex' _ _ hA, delH_same, h4.ex ex⟩
    · obtain ⟨f1, f2⟩ := T.fr b _ h2 (by rw [upd_ne hb']; exact h3) (fun z => nomatch z)
      exact ⟨b, vs, h1, f1, by rw [delH_ne hb']; exact f2, h4.ex ex⟩
theorem after_box {G : Ctx} {ρ : Rho} {σ : St} {H0 H H0' H' : Hp} {s : Sl} {v : V} {i : Nat} {xs ys : List D} {a : Addr} {bv : List V} (E : REnv G ρ σ H0 H) (hi : ρ[i]? = some (some (.ow xs))) (ha : σ[i]? = some (some (.ref a)))
    (T : TrF (some a) H0 H H0' H') (hb : H' a = some (.lst bv)) (h0 : H0' a = none) (hr : Reps G H0' ys bv) (r : RetOk G H H0' H' s v) :
    Tr ρ σ H0 H (ρ.set i (some (.ow ys))) σ H0' H' ∧ REnv G (ρ.set i (some (.ow ys))) σ H0' H' ∧ RSl G ρ σ H (ρ.set i (some (.ow ys))) H0' H' s v := by
  have hil : i < ρ.length := by
    by_cases hi' : i < ρ.length
    · exact hi'
    · rw [List.getElem?_eq_none (by simpa using hi')] at hi; cases hi
  have back : ∀ {j : Nat} {zs}, (ρ.set i (some (.ow ys)))[j]? = some (some (.ow zs)) → ∃ us, ρ[j]? = some (some (.ow us)) := fun {j zs} q => by
    by_cases hj : i = j
    · subst hj; exact ⟨xs, hi⟩
    · rw [List.getElem?_set_ne hj] at q; exact ⟨zs, q⟩
  have oback : ∀ b, Own (ρ.set i (some (.ow ys))) σ b → Own ρ σ b := fun b ⟨j, zs, q1, q2⟩ => by
    obtain ⟨us, e1⟩ := back q1
    exact ⟨j, us, e1, q2⟩
  refine ⟨⟨T.ex, fun b o h nt n no => T.fr' b o h nt n (fun z => ?_), fun b h => .inl (oback b h), T.kp⟩, ⟨T.tb, T.ex', by simp [E.len], fun j d q => ?_, fun j d q => ?_, fun j d q => ?_, fun j d q => ?_, fun j zs q => ?_, fun j k us zs b q1 q2 q3 q4 => ?_⟩, ?_⟩
  · cases z; exact no ⟨i, xs, hi, ha⟩
  · by_cases hj : i = j
    · subst hj; rw [List.getElem?_set_self hil] at q; cases q
    · rw [List.getElem?_set_ne hj] at q
      obtain ⟨w, h1, h2⟩ := E.im j d q
      exact ⟨w, h1, h2.ex T.ex⟩
  · by_cases hj : i = j
    · subst hj; rw [List.getElem?_set_self hil] at q; cases q
    · rw [List.getElem?_set_ne hj] at q; exact E.fn j d q
  · by_cases hj : i = j
    · subst hj; rw [List.getElem?_set_self hil] at q; cases q
    · rw [List.getElem?_set_ne hj] at q; exact (E.fz j d q).imp fun a h => ⟨h.1, ex_l T.ex h.2⟩
  · by_cases hj : i = j
    · subst hj; rw [List.getElem?_set_self hil] at q; cases q
    · rw [List.getElem?_set_ne hj] at q; exact (E.tt j d q).imp fun a h => ⟨h.1, h.2.ex T.ex⟩
  · by_cases hj : i = j
    · subst hj
      rw [List.getElem?_set_self hil] at q
      cases q
      exact ⟨a, bv, ha, hb, h0, hr⟩
    · rw [List.getElem?_set_ne hj] at q
      obtain ⟨b, us, q1, q2, q3, q4⟩ := E.ow j zs q
      have hb' : b ≠ a := fun z => by subst z; exact hj (E.ap i j xs zs b hi q ha q1)
      obtain ⟨f1, f2⟩ := T.fr b _ q2 q3 (fun z => hb' (Option.some.inj z))
      exact ⟨b, us, q1, f1, f2, q4.ex T.ex⟩
  · obtain ⟨_, e1⟩ := back q1
    obtain ⟨_, e2⟩ := back q2
    exact E.ap j k _ _ b e1 e2 q3 q4
  · cases s with
    | im d => exact r
    | ow zs =>
      obtain ⟨b, vs, e, h1, h2, h3, h4⟩ := r
      refine ⟨b, vs, e, h1, h2, h3, fun o => ?_, .inr h4⟩
      obtain ⟨us, z, _⟩ := own_tracked E (oback b o)
      exact h4.not z
    | fn x => exact r.elim
    | fz x => exact r.elim
    | tt x => exact r
end
end Dv

set_option Elab.async false
set_option linter.all false
set_option maxRecDepth 100000
set_option maxHeartbeats 4000000
namespace Dv
open PySem L2
variable [TabC]

def brs : List Arg → List Nat
  | [] => []
  | .v _ :: r => brs r
  | .br i :: r => i :: brs r
def sub1 (xs : List D) : Arg → Sl
  | .v s => s
  | .br _ => .im (.list xs)
/-- f(box, ..): the box is the def's to change -/
def boxE (C : Cf) (sc : Scope) (ev : Rho → Expr → Option (Sl × Rho)) (fn : Fn) (e0 : Expr) (es : List Expr) (ρ : Rho) : Option (Sl × Rho) :=
  match lend C sc ρ e0 with
  | some i => match argsE false C sc ev es ρ with
    | some (as, ρ1) => match ρ1[i]? with
      | some (some (.ow bs)) => if as.length + 1 = fn.ar then
          match fn.run bs (as.map (sub1 [])) with
          | some (s, bs') => some (s, ρ1.set i (some (.ow bs')))
          | none => none
        else none
      | _ => none
    | none => none
  | none => none
/-- f(..), lists of one's own given up -/
def givE (C : Cf) (sc : Scope) (ev : Rho → Expr → Option (Sl × Rho)) (fn : Fn) (es : List Expr) (ρ : Rho) : Option (Sl × Rho) :=
  match argsE false C sc ev es ρ with
  | some (as, ρ1) => if as.length = fn.ar then
      match fn.run [] (as.map (sub1 [])) with
      | some (s, []) => some (s, ρ1)
      | _ => none
    else none
  | none => none
/-- f(..), one list of one's own lent -/
def lenE (C : Cf) (sc : Scope) (ev : Rho → Expr → Option (Sl × Rho)) (fn : Fn) (es : List Expr) (ρ : Rho) : Option (Sl × Rho) :=
  match argsE true C sc ev es ρ with
  | some (as, ρ1) => if as.length = fn.ar then
      match brs as with
      | [i] => match ρ1[i]? with
        | some (some (.ow xs)) => match fn.run [] (as.map (sub1 xs)) with
          | some (.im d, []) => if noList d then some (.im d, ρ1) else none
          | _ => none
        | _ => none
      | _ => none
    else none
  | none => none
def userE (C : Cf) (sc : Scope) (ev : Rho → Expr → Option (Sl × Rho)) (fn : Fn) (es : List Expr) (ρ : Rho) : Option (Sl × Rho) :=
  if fn.box then match es with
    | e0 :: es' => boxE C sc ev fn e0 es' ρ
    | [] => none
  else match lenE C sc ev fn es ρ with
    | some r => some r
    | none => givE C sc ev fn es ρ

section
variable {X : L2.Cx} {C : Cf} {sc : Scope} {k : Nat} {pos p : Pos}
theorem RAs.vals {G : Ctx} {σ : St} {H : Hp} : ∀ {as : List Arg} {vs : List V}, (∀ a ∈ as, ∃ s, a = .v s) → RAs G σ H as vs → RArgs G H (as.map (sub1 [])) vs
  | [], _, _, h => h
  | a :: as, _, hv, h => by
    obtain ⟨w, ws, e1, h1, h2⟩ := h
    obtain ⟨s, rfl⟩ := hv a (List.mem_cons_self)
    exact ⟨w, ws, e1, h1, RAs.vals (fun b hb => hv b (List.mem_cons_of_mem _ hb)) h2⟩
theorem argE_vals {ev : Rho → Expr → Option (Sl × Rho)} {e : Expr} {ρ ρ' : Rho} {a : Arg} (h : argE false C sc ev e ρ = some (a, ρ')) : ∃ s, a = .v s := by
  unfold argE toArg at h
  simp only [Bool.false_eq_true, if_false] at h
  split at h <;> first | (cases h; exact ⟨_, rfl⟩) | cases h
theorem argsE_vals {ev : Rho → Expr → Option (Sl × Rho)} : ∀ {es : List Expr} {ρ ρ' : Rho} {as : List Arg}, argsE false C sc ev es ρ = some (as, ρ') → ∀ a ∈ as, ∃ s, a = .v s
  | [], ρ, ρ', as, h => by
    simp only [argsE, Option.some.injEq, Prod.mk.injEq] at h
    obtain ⟨rfl, _⟩ := h
    intro a ha; cases ha
  | e :: es, ρ, ρ', as, h => by
    simp only [argsE] at h
    split at h
    · split at h
      · rename_i d ρ1 h1
        split at h
        · rename_i ds ρ2 h2
          cases h
          intro a ha
          rcases List.mem_cons.mp ha with rfl | ha
          · exact argE_vals h1
          · exact argsE_vals h2 a ha
        · cases h
      · cases h
    · cases h
/-- one list is lent -/
theorem RAs.lent {G : Ctx} {σ : St} {H0 : Hp} {i : Nat} {xs : List D} {a : Addr} {bv : List V} (ha : σ[i]? = some (some (.ref a))) (h0 : H0 a = none) (r : Reps G H0 xs bv) :
    ∀ {as : List Arg} {vs : List V}, (∀ j ∈ brs as, j = i) → RAs G σ H0 as vs → RArgs G (upd H0 a (.lst bv)) (as.map (sub1 xs)) vs
  | [], _, _, h => h
  | .v s :: as, _, hv, h => by
    obtain ⟨w, ws, e1, h1, h2⟩ := h
    exact ⟨w, ws, e1, RArg.ex (Ex.new h0) h1, RAs.lent ha h0 r hv h2⟩
  | .br j :: as, _, hv, h => by
    obtain ⟨w, ws, e1, h1, h2⟩ := h
    have ej := hv j (by simp [brs])
    subst ej
    have hw : w = .ref a := by
      have z : σ[j]? = some (some w) := h1
      rw [ha] at z; cases z; rfl
    subst hw
    exact ⟨_, ws, e1, rep_lst upd_same (r.ex (Ex.new h0)), RAs.lent ha h0 r (fun j' hj => hv j' (by simp [brs, hj])) h2⟩
theorem pe_givS (K : COk C sc k X) {x : Str} {fn : Fn} (hx : C.fns x = some fn) (hb : fn.box = false) (hg : globB sc x = true) (hd : plainName x = true) {e : Expr} {es : List Expr} (hs : (e :: es).all notStar = true)
    {ev : Rho → Expr → Option (Sl × Rho)} (h : ∀ e, PE X e (tS (Cx.G X) fun ρ => ev ρ e)) : PE X (.Call (.Name x p) (e :: es) [] pos) (tS (Cx.G X) (givE C sc ev fn (e :: es))) := PE.of fun σ H Q q => by
  obtain ⟨f, fd, ps, hm, hk, F, B⟩ := (K.fns x fn hx).ex
  simp only [plainName, Bool.and_eq_true, Bool.not_eq_true'] at hd
  simp only [List.all_cons, Bool.and_eq_true] at hs
  refine ⟨_, pe_callAt F (gl_of K.toCOkB hg) hm hk B passL (pa_args (ln := false) K h (e :: es)) hd.1 (star_of hs.1) (star_plain hs.2), ?_⟩
  obtain ⟨ρ, s, ρ', H0, hev, E, q⟩ := q
  unfold givE at hev
  split at hev
  · rename_i as ρ1 h1
    split at hev
    · rename_i hl
      split at hev
      · rename_i s' h2
        cases hev
        refine ⟨ρ, as, _, H0, h1, E, fun vs H1 H01 T1 E1 r1 => ?_⟩
        show spOf _ fn (vs ++ []) H1 Q E0
        rw [List.append_nil]
        refine ⟨by rw [← r1.length]; exact hl, H01, E1.tb, E1.ex, ?_⟩
        rw [if_pos hb]
        refine ⟨_, _, RAs.vals (argsE_vals h1) r1, h2, fun v H' H0' T r => ?_⟩
        obtain ⟨t1, t2, t3⟩ := after_none E1 T r
        exact q v H' H0' (T1.trans t1) t2 (t3.via T1)
      · cases hev
    · cases hev
  · cases hev
theorem pe_lenS (K : COk C sc k X) {x : Str} {fn : Fn} (hx : C.fns x = some fn) (hb : fn.box = false) (hg : globB sc x = true) (hd : plainName x = true) {e : Expr} {es : List Expr} (hs : (e :: es).all notStar = true)
    {ev : Rho → Expr → Option (Sl × Rho)} (h : ∀ e, PE X e (tS (Cx.G X) fun ρ => ev ρ e)) : PE X (.Call (.Name x p) (e :: es) [] pos) (tS (Cx.G X) (lenE C sc ev fn (e :: es))) := PE.of fun σ H Q q => by
  obtain ⟨f, fd, ps, hm, hk, F, B⟩ := (K.fns x fn hx).ex
  simp only [plainName, Bool.and_eq_true, Bool.not_eq_true'] at hd
  simp only [List.all_cons, Bool.and_eq_true] at hs
  refine ⟨_, pe_callAt F (gl_of K.toCOkB hg) hm hk B passL (pa_args (ln := true) K h (e :: es)) hd.1 (star_of hs.1) (star_plain hs.2), ?_⟩
  obtain ⟨ρ, s, ρ', H0, hev, E, q⟩ := q
  unfold lenE at hev
  split at hev
  · rename_i as ρ1 h1
    split at hev
    · rename_i hl
      split at hev
      · rename_i i hbr
        split at hev
        · rename_i xs hxs
          split at hev
          · rename_i d h2
            split at hev
            · rename_i hn
              cases hev
              refine ⟨ρ, as, _, H0, h1, E, fun vs H1 H01 T1 E1 r1 => ?_⟩
              show spOf _ fn (vs ++ []) H1 Q E0
              rw [List.append_nil]
              obtain ⟨a, bv, ea, hba, h0a, rb⟩ := E1.ow i xs hxs
              refine ⟨by rw [← r1.length]; exact hl, upd H01 a (.lst bv), E1.tb.freeze hba, fun b o e => ?_, ?_⟩
              · by_cases hb' : b = a
                · subst hb'; rw [upd_same] at e; cases e; exact hba
                · rw [upd_ne hb'] at e; exact E1.ex _ _ e
              rw [if_pos hb]
              refine ⟨_, _, RAs.lent ea h0a rb (fun j hj => by rw [hbr] at hj; simpa using hj) r1, h2, fun v H' H0' T r => ?_⟩
              obtain ⟨t1, t2, t3⟩ := after_lent E1 hxs ea hba h0a T hn r
              exact q v H' _ (T1.trans t1) t2 (t3.via T1)
            · cases hev
          · cases hev
        · cases hev
      · cases hev
    · cases hev
  · cases hev
theorem pe_boxS (K : COk C sc k X) {x : Str} {fn : Fn} (hx : C.fns x = some fn) (hb : fn.box = true) (hg : globB sc x = true) (hd : plainName x = true) {e : Expr} {es : List Expr} (hs : (e :: es).all notStar = true)
    {ev : Rho → Expr → Option (Sl × Rho)} (h : ∀ e, PE X e (tS (Cx.G X) fun ρ => ev ρ e)) : PE X (.Call (.Name x p) (e :: es) [] pos) (tS (Cx.G X) (boxE C sc ev fn e es)) := PE.of fun σ H Q q => by
  obtain ⟨f, fd, ps, hm, hk, F, B⟩ := (K.fns x fn hx).ex
  simp only [plainName, Bool.and_eq_true, Bool.not_eq_true'] at hd
  simp only [List.all_cons, Bool.and_eq_true] at hs
  obtain ⟨ρ, s, ρ', H0, hev, E, q⟩ := q
  unfold boxE at hev
  split at hev
  · rename_i i hi
    obtain ⟨x0, px, xs, rfl, hs0, hx0⟩ := lend_eq hi
    refine ⟨_, pe_callAt F (gl_of K.toCOkB hg) hm hk B passL (pa_cons (slot_pe K.toCOkB hs0) (pa_args (ln := false) K h es) (star_of hs.1)) hd.1 (star_of hs.1) (star_plain hs.2), ?_⟩
    split at hev
    · rename_i as ρ1 h1
      split at hev
      · rename_i bs hbs
        split at hev
        · rename_i hl
          split at hev
          · rename_i s' bs' h2
            cases hev
            obtain ⟨a0, vs0, e1, _⟩ := E.ow i xs hx0
            refine ⟨_, e1, ρ, as, _, H0, h1, E, fun vs H1 H01 T1 E1 r1 => ?_⟩
            show spOf _ fn ((_ :: vs) ++ []) H1 Q E0
            rw [List.append_nil]
            obtain ⟨a, bv, ea, hba, h0a, rb⟩ := E1.ow i bs hbs
            rw [e1] at ea
            cases ea
            refine ⟨by rw [← hl, r1.length]; rfl, H01, E1.tb, E1.ex, ?_⟩
            rw [if_neg (by rw [hb]; exact fun z => nomatch z)]
            refine ⟨_, _, _, _, _, _, _, rfl, hba, h0a, rb, RAs.vals (argsE_vals h1) r1, h2, fun v H' H0' bv' T hb' h0' r' r => ?_⟩
            obtain ⟨t1, t2, t3⟩ := after_box E1 hbs e1 T hb' h0' r' r
            exact q v H' H0' (T1.trans t1) t2 (t3.via T1)
          · cases hev
        · cases hev
      · cases hev
    · cases hev
  · cases hev
theorem pe_userS (K : COk C sc k X) {x : Str} {fn : Fn} (hx : C.fns x = some fn) (hg : globB sc x = true) (hd : plainName x = true) {e : Expr} {es : List Expr} (hs : (e :: es).all notStar = true)
    {ev : Rho → Expr → Option (Sl × Rho)} (h : ∀ e, PE X e (tS (Cx.G X) fun ρ => ev ρ e)) : PE X (.Call (.Name x p) (e :: es) [] pos) (tS (Cx.G X) (userE C sc ev fn (e :: es))) := PE.of fun σ H Q q => by
  obtain ⟨ρ, s, ρ', H0, hev, E, q⟩ := q
  unfold userE at hev
  cases hb : fn.box with
  | true =>
    rw [if_pos hb] at hev
    exact ⟨_, pe_boxS K hx hb hg hd hs h, ρ, s, ρ', H0, hev, E, q⟩
  | false =>
    rw [if_neg (by rw [hb]; exact fun z => nomatch z)] at hev
    split at hev
    · rename_i r hr
      cases hev
      exact ⟨_, pe_lenS K hx hb hg hd hs h, ρ, s, ρ', H0, hr, E, q⟩
    · exact ⟨_, pe_givS K hx hb hg hd hs h, ρ, s, ρ', H0, hev, E, q⟩
end
end Dv

set_option Elab.async false
set_option linter.all false
set_option maxRecDepth 100000
set_option maxHeartbeats 4000000
namespace Dv
open PySem L2
variable [TabC]

def notSlice : Expr → Bool
  | .Slice .. => false
  | _ => true
theorem plainIx_of {b : Expr} (h : notSlice b = true) : PlainIx b := by
  intro o i
  cases b <;> first | rfl | (simp [notSlice] at h)
theorem atI_reps {G : Ctx} {H : Hp} {ds : List D} {vs : List V} {i : Int} {d : D} (r : Reps G H ds vs) (h : atI ds i = some d) : ∃ v, atI vs i = some v ∧ Rep G H d v := by
  unfold atI at *
  rw [← r.length]
  cases q : ixN ds.length i with
  | none => rw [q] at h; cases h
  | some j =>
    rw [q] at h
    obtain ⟨v, h1, h2⟩ := r.get (i := j) h
    exact ⟨v, h1, h2⟩
def ixD : D → D → Option D
  | .tuple xs, .int i => atI xs i
  | .list xs, .int i => atI xs i
  | .str z, .int i => if z.length ≤ sline then (atI z.cps.toList i).map fun c => .str ⟨#[c]⟩ else none
  | _, _ => none
def ixE (ea eb : Rho → Option (D × Rho)) (ρ : Rho) : Option (D × Rho) := match ea ρ with
  | some (d1, ρ1) => match eb ρ1 with
    | some (d2, ρ2) => match ixD d1 d2 with
      | some d => some (d, ρ2)
      | none => none
    | none => none
  | none => none
/-- an item of a list of one's own, of the script -/
def ixO (i : Nat) (eb : Rho → Option (D × Rho)) (ρ : Rho) : Option (D × Rho) := match ρ[i]? with
  | some (some (.ow _)) => match eb ρ with
    | some (.int j, ρ2) => match ρ2[i]? with
      | some (some (.ow xs)) => match atI xs j with
        | some d => some (d, ρ2)
        | none => none
      | _ => none
    | _ => none
  | some (some (.fz _)) => match eb ρ with
    | some (.int z, ρ2) => match ρ2[i]? with
      | some (some (.fz ns)) => match atI ns z with
        | some n => some (.int n, ρ2)
        | none => none
      | _ => none
    | _ => none
  | _ => none
section
variable {X : L2.Cx} {C : Cf} {sc : Scope} {k : Nat} {pos p : Pos} {a b : Expr} {ea eb : Rho → Option (D × Rho)}
theorem pe_ixD (hb : notSlice b = true) (ha : PE X a (tD (Cx.G X) ea)) (hbb : PE X b (tD (Cx.G X) eb)) : PE X (.Subscript a b pos) (tD (Cx.G X) (ixE ea eb)) := PE.of fun σ H Q q => by
  obtain ⟨ρ, s, ρ', H0, hev, E, q⟩ := q
  unfold ixE at hev
  split at hev
  · rename_i d1 ρ1 h1
    split at hev
    · rename_i d2 ρ2 h2
      split at hev
      · rename_i d h3
        cases hev
        unfold ixD at h3
        split at h3
        · rename_i xs i
          refine ⟨_, pe_ix ix_tup ha hbb (plainIx_of hb), ?_⟩
          refine ⟨ρ, _, ρ1, H0, h1, E, fun v1 H1 H01 T1 E1 r1 => ⟨ρ1, _, _, H01, h2, E1, fun v2 H2 H02 T2 E2 r2 => ?_⟩⟩
          obtain ⟨p, vs, rfl, e1, e2⟩ := (r1.ex T2.ex).tup
          obtain ⟨v, e3, e4⟩ := atI_reps e2 h3
          exact ⟨p, vs, i, v, rfl, r2.int, (.inl (ex_rd E2.ex e1)), e3, q _ _ _ (T1.trans T2) E2 e4⟩
        · rename_i xs i
          refine ⟨_, pe_ix ix_list ha hbb (plainIx_of hb), ?_⟩
          refine ⟨ρ, _, ρ1, H0, h1, E, fun v1 H1 H01 T1 E1 r1 => ⟨ρ1, _, _, H01, h2, E1, fun v2 H2 H02 T2 E2 r2 => ?_⟩⟩
          obtain ⟨p, vs, rfl, e1, e2⟩ := (r1.ex T2.ex).lst
          obtain ⟨v, e3, e4⟩ := atI_reps e2 h3
          exact ⟨p, vs, i, v, rfl, r2.int, SqL.of (E2.ex _ _ e1), e3, q _ _ _ (T1.trans T2) E2 e4⟩
        · rename_i z i
          split at h3
          · rename_i hz
            cases hc : atI z.cps.toList i with
            | none => rw [hc] at h3; cases h3
            | some c =>
              rw [hc] at h3
              cases h3
              refine ⟨_, pe_ix ix_str ha hbb (plainIx_of hb), ?_⟩
              refine ⟨ρ, _, ρ1, H0, h1, E, fun v1 H1 H01 T1 E1 r1 => ⟨ρ1, _, _, H01, h2, E1, fun v2 H2 H02 T2 E2 r2 => ?_⟩⟩
              exact ⟨z, i, c, r1.str, r2.int, sline_le hz, hc, q _ _ _ (T1.trans T2) E2 (rep_str _)⟩
          · cases h3
        · cases h3
      · cases hev
    · cases hev
  · cases hev
theorem pe_ixO (K : COk C sc k X) {x : Str} {i : Nat} {px : Pos} (hs : slotE C sc x = some i) (hb : notSlice b = true) (hbb : PE X b (tD (Cx.G X) eb)) : PE X (.Subscript (.Name x px) b pos) (tD (Cx.G X) (ixO i eb)) := PE.of fun σ H Q q => by
  refine ⟨_, pe_ix ix_list (slot_pe K.toCOkB hs) hbb (plainIx_of hb), ?_⟩
  obtain ⟨ρ, s, ρ', H0, hev, E, q⟩ := q
  unfold ixO at hev
  split at hev
  · rename_i xs0 hx0
    split at hev
    · rename_i j ρ2 h2
      split at hev
      · rename_i xs hxs
        split at hev
        · rename_i d h3
          cases hev
          obtain ⟨a0, vs0, e1, _⟩ := E.ow i xs0 hx0
          refine ⟨_, e1, ρ, _, _, H0, h2, E, fun v2 H2 H02 T2 E2 r2 => ?_⟩
          obtain ⟨a1, vs1, e2, e3, e4, e5⟩ := E2.ow i _ hxs
          rw [e1] at e2; cases e2
          obtain ⟨v, e6, e7⟩ := atI_reps e5 h3
          exact ⟨a0, vs1, j, v, rfl, r2.int, SqL.of e3, e6, q _ _ _ T2 E2 e7⟩
        · cases hev
      · cases hev
    · cases hev
  · rename_i ns0 hx0
    split at hev
    · rename_i z ρ2 h2
      split at hev
      · rename_i ns hns
        split at hev
        · rename_i n h3
          cases hev
          obtain ⟨a0, e1, _⟩ := E.fz i ns0 hx0
          refine ⟨_, e1, ρ, _, _, H0, h2, E, fun v2 H2 H02 T2 E2 r2 => ?_⟩
          obtain ⟨a1, e2, e3⟩ := E2.fz i ns hns
          rw [e1] at e2; cases e2
          refine ⟨a0, ns.map V.int, z, .int n, rfl, r2.int, ex_l E2.ex e3, ?_, q _ _ _ T2 E2 (rep_int _)⟩
          unfold atI at *
          rw [List.length_map]
          cases hj : ixN ns.length z with
          | none => rw [hj] at h3; cases h3
          | some j =>
            rw [hj] at h3
            have h3 : ns[j]? = some n := h3
            show (ns.map V.int)[j]? = _
            rw [List.getElem?_map, h3]; rfl
        · cases hev
      · cases hev
    · cases hev
  · cases hev
/-- len of a list of one's own, of the script -/
def lenO (i : Nat) (ρ : Rho) : Option (D × Rho) := match ρ[i]? with
  | some (some (.ow xs)) => some (.int (xs.length : Nat), ρ)
  | some (some (.fz ns)) => some (.int (ns.length : Nat), ρ)
  | _ => none
theorem pe_lenO (K : COk C sc k X) {x : Str} {i : Nat} {px : Pos} (hs : slotE C sc x = some i) (hg : globB sc "len" = true) : PE X (.Call (.Name "len" p) [.Name x px] [] pos) (tD (Cx.G X) (lenO i)) := PE.of fun σ H Q q => by
  refine ⟨_, pe_callB call_len_seq (gl_of K.toCOkB hg) (K.blt "len" _ rfl) (by decide +kernel) (pa_cons (slot_pe K.toCOkB hs) pa_nil), ?_⟩
  obtain ⟨ρ, s, ρ', H0, hev, E, q⟩ := q
  unfold lenO at hev
  split at hev
  · rename_i xs hx
    cases hev
    obtain ⟨a0, vs0, e1, e2, _, e3⟩ := E.ow i xs hx
    exact ⟨_, e1, a0, vs0, rfl, .inl (SqL.of e2), q _ H H0 (Tr.refl _ _ _ _) E (by rw [← e3.length]; exact rep_int _)⟩
  · rename_i ns hx
    cases hev
    obtain ⟨a0, e1, e2⟩ := E.fz i ns hx
    exact ⟨_, e1, a0, _, rfl, .inl (ex_l E.ex e2), q _ H H0 (Tr.refl _ _ _ _) E (by rw [List.length_map]; exact rep_int _)⟩
  · cases hev

/-! ### slices -/
def cutD (xs : List D) (lo hi : Option Int) : List D := (xs.drop (HT.sIx xs.length 0 lo)).take (HT.sIx xs.length xs.length hi - HT.sIx xs.length 0 lo)
theorem cut_reps {G : Ctx} {H : Hp} {ds : List D} {vs : List V} (r : Reps G H ds vs) (lo hi : Option Int) : Reps G H (cutD ds lo hi) (cutV vs lo hi) := by
  unfold cutD cutV
  rw [r.length]
  exact (r.drop _).take _
def partE (ev : Rho → Expr → Option (D × Rho)) : Option Expr → Rho → Option (Option Int × Rho)
  | none, ρ => some (none, ρ)
  | some e, ρ => match ev ρ e with
    | some (.int i, ρ1) => some (some i, ρ1)
    | _ => none
def tO (G : Ctx) (ev : Rho → Option (Option Int × Rho)) : TO := fun σ H Q => ∃ ρ o ρ' H0, ev ρ = some (o, ρ') ∧ REnv G ρ σ H0 H ∧
  ∀ H' H0', Tr ρ σ H0 H ρ' σ H0' H' → REnv G ρ' σ H0' H' → Q o H'
theorem PO.of {e : Option Expr} {t : TO} (h : ∀ σ H Q, t σ H Q → ∃ t' : TO, PO X e t' ∧ t' σ H Q) : PO X e t := ⟨fun pins s σ H Q I q => by
  obtain ⟨t', h1, h2⟩ := h σ H Q q
  exact h1.run pins s σ H Q I h2⟩
theorem po_part {ev : Rho → Expr → Option (D × Rho)} (h : ∀ e, PE X e (tD (Cx.G X) fun ρ => ev ρ e)) (o : Option Expr) : PO X o (tO (Cx.G X) (partE ev o)) := PO.of fun σ H Q q => by
  obtain ⟨ρ, s, ρ', H0, hev, E, q⟩ := q
  cases o with
  | none =>
    cases hev
    exact ⟨_, po_none, q H H0 (Tr.refl _ _ _ _) E⟩
  | some e =>
    simp only [partE] at hev
    split at hev
    · rename_i i' ρ2 h1
      cases hev
      exact ⟨_, po_some (h _), ρ, _, _, H0, h1, E, fun v H1 H01 T1 E1 r1 => ⟨i', r1.int, q _ _ T1 E1⟩⟩
    · cases hev
def slcD : D → Option Int → Option Int → Option Sl
  | .tuple xs, lo, hi => some (.im (.tuple (cutD xs lo hi)))
  | .list xs, lo, hi => some (.ow (cutD xs lo hi))
  | .str z, lo, hi => if z.length ≤ sline then some (.im (.str (cutS z lo hi))) else none
  | _, _, _ => none
def slcE (ev : Rho → Expr → Option (D × Rho)) (e : Expr) (lo hi : Option Expr) (ρ : Rho) : Option (Sl × Rho) := match ev ρ e with
  | some (d, ρ1) => match partE ev lo ρ1 with
    | some (l, ρ2) => match partE ev hi ρ2 with
      | some (u, ρ3) => match slcD d l u with
        | some s => some (s, ρ3)
        | none => none
      | none => none
    | none => none
  | none => none
theorem pe_slcS {ev : Rho → Expr → Option (D × Rho)} (h : ∀ e, PE X e (tD (Cx.G X) fun ρ => ev ρ e)) {e : Expr} {lo hi : Option Expr} {p2 : Pos} : PE X (.Subscript e (.Slice lo hi none p2) pos) (tS (Cx.G X) (slcE ev e lo hi)) := PE.of fun σ H Q q => by
  obtain ⟨ρ, s, ρ', H0, hev, E, q⟩ := q
  unfold slcE at hev
  split at hev
  · rename_i d ρ1 h1
    split at hev
    · rename_i l ρ2 h2
      split at hev
      · rename_i u ρ3 h3
        split at hev
        · rename_i s' h4
          cases hev
          unfold slcD at h4
          split at h4
          · cases h4
            refine ⟨_, pe_slice sl_tupN (h e) (po_part h lo) (po_part h hi), ?_⟩
            refine ⟨ρ, _, ρ1, H0, h1, E, fun v H1 H01 T1 E1 r1 => ⟨ρ1, l, ρ2, H01, h2, E1, fun H2 H02 T2 E2 => ⟨ρ2, u, _, H02, h3, E2, fun H3 H03 T3 E3 => ?_⟩⟩⟩
            obtain ⟨a, vs, rfl, e0, e2⟩ := (r1.ex (T2.ex.trans T3.ex)).tpo
            have e1 := e0.rd
            have TT := (T1.trans T2).trans T3
            refine ⟨a, vs, rfl, (.inl (ex_rd E3.ex e1)), fun hw => ?_, fun hw p o hp ho => ?_⟩
            · refine q _ H3 H03 TT E3 (rsl_im (rep_tupO e0 ?_))
              have z : cutV vs l u = vs := by
                unfold cutV
                rw [hw.1, hw.2, List.drop_zero, Nat.sub_zero, List.take_length]
              have r := cut_reps e2 l u
              rw [z] at r
              exact r
            · have hp0 := E3.ex.back hp
              exact q _ _ _ (TT.trans (Tr.newI hp hp0)) (E3.newI hp) (rsl_im (rep_tupO (.new ho) ((cut_reps e2 l u).ex (Ex.new hp0))))
          · cases h4
            refine ⟨_, pe_slice sl_list (h e) (po_part h lo) (po_part h hi), ?_⟩
            refine ⟨ρ, _, ρ1, H0, h1, E, fun v H1 H01 T1 E1 r1 => ⟨ρ1, l, ρ2, H01, h2, E1, fun H2 H02 T2 E2 => ⟨ρ2, u, _, H02, h3, E2, fun H3 H03 T3 E3 => ?_⟩⟩⟩
            obtain ⟨a, vs, rfl, e1, e2⟩ := (r1.ex (T2.ex.trans T3.ex)).lst
            have TT := (T1.trans T2).trans T3
            exact ⟨a, vs, rfl, SqL.of (E3.ex _ _ e1), fun p hp => q _ _ _ (TT.trans (Tr.newO hp)) (E3.newO hp) ((RSl.newO E3 hp (cut_reps e2 l u)).via TT)⟩
          · split at h4
            · rename_i z hz
              cases h4
              refine ⟨_, pe_slice sl_str (h e) (po_part h lo) (po_part h hi), ?_⟩
              refine ⟨ρ, _, ρ1, H0, h1, E, fun v H1 H01 T1 E1 r1 => ⟨ρ1, l, ρ2, H01, h2, E1, fun H2 H02 T2 E2 => ⟨ρ2, u, _, H02, h3, E2, fun H3 H03 T3 E3 => ?_⟩⟩⟩
              exact ⟨z, r1.str, sline_le hz, q _ H3 H03 ((T1.trans T2).trans T3) E3 (rsl_im (rep_str _))⟩
            · cases h4
          · cases h4
        · cases hev
      · cases hev
    · cases hev
  · cases hev
end
section
variable {X : L2.Cx} {f : Addr} {fd : FuncData} {ps : List Str} {sp : Sp} {E : XK} {x : Str} {p pos : Pos} {e : Expr} {es : List Expr} {t : TA}
theorem pe_callLAt {i : Nat} (F : FnAt X.prog X.w X.K X.mg X.base X.A f fd ps sp) (hN : X.N[i]? = some x) (hv : Vis X.env.scope x) (hk : PySem.W.keepIn X.K (.ref f) = true) (hb : Binds X.K fd ps []) (hx : Passes (L2.CX X.prog X.w) X E) (ha : PA X (e :: es) t)
    (hdb : (x == ("__debug__" : Str)) = false) (hcd : (x == ("__classdict__" : Str)) = false) (he : starEach (e :: es) X.env = (false, eval e X.env) :: starEach es X.env) (hpl : (backTo pos (starEach es X.env)).any (·.1) = false) : PE X (.Call (.Name x p) (e :: es) [] pos) (tCallL i f sp [] E t) :=
  ⟨fun pins s σ H Q I ⟨hs, ht⟩ => wpAny_Call_Name_kw (thn ((pe_var (pos := p) hN hv hdb hcd).run pins s σ H (fun v H1 => v = .ref f ∧ H1 = H) I ⟨.ref f, hs, rfl, rfl⟩) fun u s1 ⟨v, H1, I1, r1, q1⟩ => by
    obtain ⟨rfl, rfl⟩ := q1
    cases r1
    exact PySem.W.callWith_K (h₀ := X.base) I.ok.mod.kin hk (thn (ha.run pos pins s1 σ _ _ I1 ht) fun us s2 ⟨vs, H2, I2, r, q⟩ => ⟨I2.kIn, run_at F hb hx I2 r q⟩) he hpl)⟩
end
section
variable {X : L2.Cx} {C : Cf} {sc : Scope} {k : Nat} {pos p : Pos} {a b : Expr} {ea eb : Rho → Option (D × Rho)}
/-- a def that stands in a name of one's own -/
theorem pe_fnS (K : COk C sc k X) {x : Str} {i : Nat} (hs0 : slotE C sc x = some i) {e : Expr} {es : List Expr} (hs : (e :: es).all notStar = true)
    {ev : Rho → Expr → Option (Sl × Rho)} (h : ∀ e, PE X e (tS (Cx.G X) fun ρ => ev ρ e)) : PE X (.Call (.Name x p) (e :: es) [] pos) (tS (Cx.G X) fun ρ => match ρ[i]? with
      | some (some (.fn y)) => match C.fns y with
        | some fn => if fn.box then none else givE C sc ev fn (e :: es) ρ
        | none => none
      | _ => none) := PE.of fun σ H Q q => by
  obtain ⟨ρ, s, ρ', H0, hev, E, q⟩ := q
  dsimp only at hev
  split at hev
  · rename_i y hy
    split at hev
    · rename_i fn hf
      split at hev
      · cases hev
      · rename_i hb
        obtain ⟨f, fd, ps, hm, hk, F, B⟩ := (K.fns y fn hf).ex
        simp only [List.all_cons, Bool.and_eq_true] at hs
        unfold slotE at hs0
        split at hs0
        · rename_i hvp
          simp only [Bool.and_eq_true, plainName, Bool.not_eq_true'] at hvp
          refine ⟨_, pe_callLAt (E := E0) (f := f) F (by rw [K.N]; exact idx_get hs0) (by rw [K.sc]; exact vis_of hvp.1) hk B passL (pa_args (ln := false) K h (e :: es)) hvp.2.1 hvp.2.2 (star_of hs.1) (star_plain hs.2), ?_⟩
          obtain ⟨af, ef, mf⟩ := E.fn i y hy
          have : af = f := by
            have z : X.mg y = some (.ref af) := mf
            rw [hm] at z; cases z; rfl
          subst this
          refine ⟨ef, ?_⟩
          unfold givE at hev
          split at hev
          · rename_i as ρ1 h1
            split at hev
            · rename_i hl
              split at hev
              · rename_i s' h2
                cases hev
                refine ⟨ρ, as, _, H0, h1, E, fun vs H1 H01 T1 E1 r1 => ?_⟩
                show spOf _ fn (vs ++ []) H1 Q E0
                rw [List.append_nil]
                refine ⟨by rw [← r1.length]; exact hl, H01, E1.tb, E1.ex, ?_⟩
                rw [if_pos (by simpa using hb)]
                refine ⟨_, _, RAs.vals (argsE_vals h1) r1, h2, fun v H' H0' T r => ?_⟩
                obtain ⟨t1, t2, t3⟩ := after_none E1 T r
                exact q v H' H0' (T1.trans t1) t2 (t3.via T1)
              · cases hev
            · cases hev
          · cases hev
        · cases hs0
    · cases hev
  · cases hev
end
end Dv

set_option Elab.async false
set_option linter.all false
set_option maxRecDepth 100000
set_option maxHeartbeats 4000000
namespace PySem
open Sem (wp)
open AutoSeq1 (wpAny_loadPart')
/-! enumerate(t), t a tuple -/
theorem dv_meets_enumerate_newT (l : Addr) (items : Array Value) (n : Nat) (dct : Option Addr) (sl : Array (Option Value)) :
    Meets (Builtin.«enumerate.__new__» ⟨[.type "enumerate", .ref l], []⟩) (fun _ R s => s.heap.get? l = some { cls := .type "tuple", dict := dct, data := .seq items n, slots := sl } ∧
      R (.ok (.ret (.ref (s.heap.push { cls := .type "tuple_iterator", data := .fields #[.ref l, .int 0 0] }).objs.size)))
        { s with heap := (s.heap.push { cls := .type "tuple_iterator", data := .fields #[.ref l, .int 0 0] }).push { cls := .type "enumerate", data := .fields #[.none, .bool false, .ref s.heap.objs.size, rawInt 0, .none, .none] } }) :=
  .of_wp fun prog w A R s h => by
    obtain ⟨hp, g, d, tk, os⟩ := s; obtain ⟨hl, h⟩ := h
    have hsub := sub_enumerate
    have hL : Heap.IsTuple (Shared.heap ⟨hp, g, d, tk, os⟩) l items := ⟨_, hl, rfl, n, rfl⟩
    wp_walk using wpAny_loadPart' hl
    refine wpAny_stack_any fun st => wpAny_pure ?_
    split
    · rename_i c _ _ _ _ _
      cases (c == Value.type "enumerate")
      · wp_walk using wpAny_loadPart' hl, wpAny_pyIter_tuple hL
        exact ⟨_, rfl, h⟩
      · wp_walk using wpAny_loadPart' hl, wpAny_pyIter_tuple hL
        exact ⟨_, rfl, h⟩
    · wp_walk using wpAny_loadPart' hl, wpAny_pyIter_tuple hL
      exact ⟨_, rfl, h⟩
section
variable {prog : Program} {w : World} {A : Around} {E : Value → Shared → Prop} {s : Shared}
theorem dv_call_enumerate_tuple {l : Addr} {items : Array Value} {Q : Value → Shared → Prop} (hL : s.heap.IsTuple l items)
    (h : ∀ h', IsEnum h' (s.heap.objs.size + 1) s.heap.objs.size 0 .none → h'.IsTupleIter s.heap.objs.size l 0 → h'.objs.size = s.heap.objs.size + 2 →
      (∀ b o, s.heap.get? b = some o → h'.get? b = some o) → Q (.ref (s.heap.objs.size + 1)) { s with heap := h' }) :
    wpAny (model prog w) A (call (.type "enumerate") [.ref l]) Q E s := by
  obtain ⟨⟨c, dct, dt, sl⟩, hl, hc, n, hd⟩ := hL
  replace hc : c = .type "tuple" := hc
  replace hd : dt = .seq items n := hd
  subst hc hd
  refine callType_new F.called_enumerate (by decide) (F.typeCall_enumerate_1 _) (F.newCall_enumerate_1 _) (fun obj => F.args_object_init_2 obj _) F.entry_enumerate_new
    (dv_meets_enumerate_newT l items n dct sl) ⟨hl, ?_⟩
  have hz : (s.heap.push { cls := .type "tuple_iterator", data := .fields #[.ref l, .int 0 0] }).objs.size = s.heap.objs.size + 1 := Heap.size_push ..
  show _ ∧ _
  rw [hz]
  have he : IsEnum ((s.heap.push { cls := .type "tuple_iterator", data := .fields #[.ref l, .int 0 0] }).push
      { cls := .type "enumerate", data := .fields #[.none, .bool false, .ref s.heap.objs.size, rawInt 0, .none, .none] }) (s.heap.objs.size + 1) s.heap.objs.size 0 .none := by
    have := Heap.get?_push_size (s.heap.push { cls := .type "tuple_iterator", data := .fields #[.ref l, .int 0 0] })
      (o := { cls := .type "enumerate", data := .fields #[.none, .bool false, .ref s.heap.objs.size, rawInt 0, .none, .none] }) rfl
    rw [hz] at this; exact this
  refine ⟨⟨_, he, rfl⟩, h _ he ⟨_, Heap.get?_push_of_some _ (Heap.get?_push_size _ rfl), rfl, rfl⟩ (by rw [Heap.size_push, hz]) fun b o x => Heap.get?_push_of_some _ (Heap.get?_push_of_some _ x)⟩
end
end PySem

set_option Elab.async false
set_option linter.all false
set_option maxRecDepth 100000
set_option maxHeartbeats 1000000
/-! zip of a list and a tuple, in whatever order: each side is told by a truth value (true: a list) -/
namespace Dv
open PySem PySem.Spec PyProof.Rows L2 RZ

def Side (b : Bool) (h : Heap) (l : Addr) (xs : Array Value) : Prop := match b with | true => h.IsList l xs | false => h.IsTuple l xs
def Cur (b : Bool) (h : Heap) (i l : Addr) (k : Nat) : Prop := match b with | true => h.IsListIter i l k | false => h.IsTupleIter i l k
def curTy (b : Bool) : String := match b with | true => "list_iterator" | false => "tuple_iterator"
theorem Side.far {b : Bool} {h h' : Heap} {l c : Addr} {xs : Array Value} (x : Side b h l xs) (e : Heap.ExtBut c h h') (n : l ≠ c) : Side b h' l xs := by
  cases b
  · exact Heap.IsTuple.extBut x e n
  · exact Heap.IsList.extBut x e n
theorem Cur.far {b : Bool} {h h' : Heap} {i l c : Addr} {k : Nat} (x : Cur b h i l k) (e : Heap.ExtBut c h h') (n : i ≠ c) : Cur b h' i l k := by
  cases b
  · exact Heap.IsTupleIter.extBut x e n
  · exact Heap.IsListIter.extBut x e n
theorem Cur.same {b : Bool} {h h' : Heap} {i l : Addr} {k : Nat} (x : Cur b h i l k) (e : ∀ o, h.get? i = some o → h'.get? i = some o) : Cur b h' i l k := by
  cases b
  · exact Heap.IsTupleIter.at x e
  · exact Heap.IsListIter.at x e
theorem Cur.here {b : Bool} {h : Heap} {i l : Addr} {k : Nat} (x : Cur b h i l k) : ∃ o, h.get? i = some o ∧ ∀ v, o.data ≠ .cell v := by
  cases b
  · obtain ⟨o, e, _, d⟩ := x
    exact ⟨o, e, fun v q => by rw [d] at q; cases q⟩
  · obtain ⟨o, e, _, d⟩ := x
    exact ⟨o, e, fun v q => by rw [d] at q; cases q⟩
section
variable {P : Program} {w : World} {A : Around} {E : Value → Shared → Prop} {s : Shared}
theorem cur_item {b : Bool} {i l : Addr} {k : Nat} {xs : Array Value} {x : Value} {Q : Value → Shared → Prop} (c : Cur b s.heap i l k) (d : Side b s.heap l xs) (hx : xs[k]? = some x)
    (q : ∀ h', Cur b h' i l (k + 1) → Heap.SameBut i s.heap h' → Q x { s with heap := h' }) : wpAny (model P w) A (Builtin.SmallTypes.nextOf (.ref i)) Q E s := by
  cases b
  · exact nextOf_tuple_item c d hx q
  · exact wpAny_nextOf_list_item c d hx q
theorem cur_stop {b : Bool} {i l : Addr} {k : Nat} {xs : Array Value} {Q : Value → Shared → Prop} (hh : A.handled = none) (c : Cur b s.heap i l k) (d : Side b s.heap l xs) (hx : xs[k]? = none)
    (q : ∀ h' e, Heap.ExtBut i s.heap h' → (∃ o, h'.get? e = some o ∧ o.cls = .type "StopIteration") → E (.ref e) { s with heap := h' }) : wpAny (model P w) A (Builtin.SmallTypes.nextOf (.ref i)) Q E s := by
  cases b
  · exact nextOf_tuple_end hh c d hx q
  · exact wpAny_nextOf_list_end hh c d hx q
/-- a zip z of the cursors i, j over l, m; T holds the cursors, U the last pair -/
structure Zp (bl bm : Bool) (h : Heap) (z T U i j l m : Addr) (k : Nat) (xs ys : Array Value) : Prop where
  z : IsZip h z T U .none
  t : IsPair h T (.ref i) (.ref j)
  u : ∃ p q, IsPair h U p q
  i : Cur bl h i l k
  j : Cur bm h j m k
  l : Side bl h l xs
  m : Side bm h m ys
theorem zp_item {bl bm : Bool} {z T U i j l m : Addr} {k : Nat} {xs ys : Array Value} {x y : Value} {Q : Value → Shared → Prop} (D : ZipApart z T U i j l m) (S : Zp bl bm s.heap z T U i j l m k xs ys) (hx : xs[k]? = some x) (hy : ys[k]? = some y)
    (q : ∀ h', IsZip h' z T U (rawInt s.heap.objs.size) → IsPair h' U x y → Cur bl h' i l (k + 1) → Cur bm h' j m (k + 1) → IsPair h' s.heap.objs.size x y → h'.objs.size = s.heap.objs.size + 1 →
      (∀ c o, c ≠ z → c ≠ U → c ≠ i → c ≠ j → s.heap.get? c = some o → h'.get? c = some o) → Q (.ref s.heap.objs.size) { s with heap := h' }) :
    wpAny (model P w) A (Builtin.«zip.__next__» ⟨[.ref z], []⟩) (fun r s' => ∃ v, r = .done (.ret v) ∧ Q v s') E s := by
  obtain ⟨gz, gt, ⟨p0, q0, gu⟩, gi, gj, gl, gm⟩ := S
  show wpAny _ _ (field (.ref z) 2 >>= _) _ _ s
  refine wpAny_bind (wpAny_field gz rfl (x := .bool false) rfl ?_); show wpAny _ _ (field (.ref z) 3 >>= _) _ _ s
  refine wpAny_bind (wpAny_field gz rfl (x := .ref T) rfl (?_)); refine wpAny_bind (wpAny_seqItems gt rfl ?_)
  show wpAny _ _ (Builtin.SmallTypes.ownedTupleIsFree (.ref z) >>= _) _ _ s
  refine wpAny_bind ?_; unfold Builtin.SmallTypes.ownedTupleIsFree
  refine wpAny_bind (wpAny_field gz rfl (x := .none) rfl (wpAny_pure (?_))); simp only [if_true]
  refine wpAny_bind (wpAny_rule (?_)); refine wpAny_bind (wpAny_field gz rfl (x := .ref U) rfl ?_)
  refine wpAny_bind (wpAny_setField_rec gz (by simp) fun ha gza ea => ?_)
  replace gza : IsZip ha z T U .ellipsis := gza
  refine wpAny_bind ?_; simp only [List.zipIdx_cons, List.zipIdx_nil, List.forIn_cons, List.forIn_nil]
  refine wpAny_bind (wpAny_bind (wpAny_onRaise ?_)); show wpAny _ _ (Builtin.SmallTypes.nextOf (.ref i) >>= _) _ _ _
  refine wpAny_bind (cur_item (gi.far ea.extBut D.i1z) (gl.far ea.extBut D.l1z) hx fun hb gib eb => wpAny_pure (?_))
  have gub : IsPair hb U p0 q0 := eb.extBut _ _ D.TOi1 (ea.extBut _ _ D.TOz gu)
  refine wpAny_bind (wpAny_seqItems gub rfl ?_); refine wpAny_bind (wpAny_updateSeq_pair gub fun hc guc ec => ?_)
  replace guc : IsPair hc U x q0 := guc
  refine wpAny_bind (wpAny_letGo (wpAny_pure ?_)); refine wpAny_bind (wpAny_bind (wpAny_onRaise ?_))
  show wpAny _ _ (Builtin.SmallTypes.nextOf (.ref j) >>= _) _ _ _
  have gjc : Cur bm hc j m k := ((gj.far ea.extBut D.i2z).far eb.extBut D.i12.symm).far ec.extBut D.TOi2.symm
  have gmc : Side bm hc m ys := ((gm.far ea.extBut D.l2z).far eb.extBut D.l2i1).far ec.extBut D.l2TO
  refine wpAny_bind (cur_item gjc gmc hy fun hd gjd ed => wpAny_pure (?_))
  have gud : IsPair hd U x q0 := ed.extBut _ _ D.TOi2 guc
  refine wpAny_bind (wpAny_seqItems gud rfl ?_); refine wpAny_bind (wpAny_updateSeq_pair gud fun he gue ee => ?_)
  replace gue : IsPair he U x y := gue
  refine wpAny_bind (wpAny_letGo (wpAny_pure (wpAny_pure (?_)))); refine wpAny_bind (wpAny_seqItems gue rfl ?_)
  refine wpAny_bind (wpAny_newTuple (?_))
  have sz : he.objs.size = s.heap.objs.size := by rw [ee.1, ed.1, ec.1, eb.1, ea.1]
  have gze : IsZip he z T U .ellipsis := ee.extBut _ _ D.TOz.symm (ed.extBut _ _ D.i2z.symm (ec.extBut _ _ D.TOz.symm (eb.extBut _ _ D.i1z.symm gza)))
  have old : ∀ c o, c ≠ z → c ≠ U → c ≠ i → c ≠ j → s.heap.get? c = some o → he.get? c = some o := fun c o n1 n2 n3 n4 g =>
    ee.extBut _ _ n2 (ed.extBut _ _ n4 (ec.extBut _ _ n2 (eb.extBut _ _ n3 (ea.extBut _ _ n1 g))))
  have gie : Cur bl he i l (k + 1) := ((gib.far ec.extBut D.TOi1.symm).far ed.extBut D.i12).far ee.extBut D.TOi1.symm
  have gje : Cur bm he j m (k + 1) := gjd.far ee.extBut D.TOi2.symm
  have zlt : z < he.objs.size := Heap.lt_size gze
  show wpAny _ _ (Builtin.SmallTypes.ownedTupleHandOut (.ref z) (.ref he.objs.size) >>= _) _ _ _
  refine wpAny_bind ?_; unfold Builtin.SmallTypes.ownedTupleHandOut
  have gzf : IsZip (he.push { cls := .type "tuple", data := .seq #[x, y] }) z T U .ellipsis := Heap.get?_push_of_some _ gze
  refine wpAny_bind (wpAny_setField_rec gzf (by simp) fun hg gzg eg => ?_)
  replace gzg : IsZip hg z T U (rawInt he.objs.size) := gzg
  refine wpAny_setField_rec gzg (by simp) fun hk gzk ek => ?_
  replace gzk : IsZip hk z T U (rawInt he.objs.size) := gzk
  have up : ∀ c o, c ≠ z → he.get? c = some o → hk.get? c = some o := fun c o n g => ek.extBut _ _ n (eg.extBut _ _ n (Heap.get?_push_of_some _ g))
  have gnew : IsPair hk he.objs.size x y := ek.extBut _ _ (Nat.ne_of_gt zlt) (eg.extBut _ _ (Nat.ne_of_gt zlt) (Heap.get?_push_size _ rfl))
  have sz2 : hk.objs.size = he.objs.size + 1 := by rw [ek.1, eg.1, Heap.size_push]
  rw [sz] at gzk gnew sz2
  refine wpAny_pure ⟨_, rfl, (?_)⟩
  show Q (.ref he.objs.size) _
  rw [sz]
  exact q hk gzk (up _ _ D.TOz gue) (gie.same fun o g => up _ o D.i1z g) (gje.same fun o g => up _ o D.i2z g) gnew sz2 fun c o n1 n2 n3 n4 g => up c o n1 (old c o n1 n2 n3 n4 g)
theorem zp_stop {bl bm : Bool} {z T U i j l m : Addr} {k : Nat} {xs ys : Array Value} {Q : Fin → Shared → Prop} (hh : A.handled = none) (D : ZipApart z T U i j l m) (S : Zp bl bm s.heap z T U i j l m k xs ys) (fin : xs[k]? = none ∨ ys[k]? = none)
    (q : ∀ h' e, (∀ c o, c ≠ z → c ≠ U → c ≠ i → c ≠ j → s.heap.get? c = some o → h'.get? c = some o) → (∃ o, h'.get? e = some o ∧ o.cls = .type "StopIteration") → E (.ref e) { s with heap := h' }) :
    wpAny (model P w) A (Builtin.«zip.__next__» ⟨[.ref z], []⟩) Q E s := by
  obtain ⟨gz, gt, ⟨p0, q0, gu⟩, gi, gj, gl, gm⟩ := S
  show wpAny _ _ (field (.ref z) 2 >>= _) _ _ s
  refine wpAny_bind (wpAny_field gz rfl (x := .bool false) rfl ?_); show wpAny _ _ (field (.ref z) 3 >>= _) _ _ s
  refine wpAny_bind (wpAny_field gz rfl (x := .ref T) rfl (?_)); refine wpAny_bind (wpAny_seqItems gt rfl ?_)
  show wpAny _ _ (Builtin.SmallTypes.ownedTupleIsFree (.ref z) >>= _) _ _ s
  refine wpAny_bind ?_; unfold Builtin.SmallTypes.ownedTupleIsFree
  refine wpAny_bind (wpAny_field gz rfl (x := .none) rfl (wpAny_pure (?_))); simp only [if_true]
  refine wpAny_bind (wpAny_rule (?_)); refine wpAny_bind (wpAny_field gz rfl (x := .ref U) rfl ?_)
  refine wpAny_bind (wpAny_setField_rec gz (by simp) fun ha gza ea => ?_)
  replace gza : IsZip ha z T U .ellipsis := gza
  refine wpAny_bind ?_; simp only [List.zipIdx_cons, List.zipIdx_nil, List.forIn_cons, List.forIn_nil]
  refine wpAny_bind (wpAny_bind (wpAny_onRaise ?_)); show wpAny _ _ (Builtin.SmallTypes.nextOf (.ref i) >>= _) _ _ _
  cases hx : xs[k]? with
  | none =>
    refine wpAny_bind (cur_stop hh (gi.far ea.extBut D.i1z) (gl.far ea.extBut D.l1z) hx fun hb e eb g => ?_)
    obtain ⟨oe, g1, g2⟩ := g
    have gzb : IsZip hb z T U .ellipsis := eb _ _ D.i1z.symm gza
    have ne : e ≠ z := fun c => by subst c; rw [gzb] at g1; cases g1; simp at g2
    exact wpAny_setField_rec gzb (by simp) fun hc _ ec => q hc e (fun c o n1 _ n3 _ g => ec.extBut _ _ n1 (eb _ _ n3 (ea.extBut _ _ n1 g))) ⟨oe, ec.extBut _ _ ne g1, g2⟩
  | some x =>
    have hy : ys[k]? = none := fin.elim (fun z => by rw [hx] at z; cases z) id
    refine wpAny_bind (cur_item (gi.far ea.extBut D.i1z) (gl.far ea.extBut D.l1z) hx fun hb gib eb => wpAny_pure (?_))
    have gub : IsPair hb U p0 q0 := eb.extBut _ _ D.TOi1 (ea.extBut _ _ D.TOz gu)
    refine wpAny_bind (wpAny_seqItems gub rfl ?_); refine wpAny_bind (wpAny_updateSeq_pair gub fun hc guc ec => ?_)
    refine wpAny_bind (wpAny_letGo (wpAny_pure (?_))); refine wpAny_bind (wpAny_bind (wpAny_onRaise ?_))
    show wpAny _ _ (Builtin.SmallTypes.nextOf (.ref j) >>= _) _ _ _
    have gjc : Cur bm hc j m k := ((gj.far ea.extBut D.i2z).far eb.extBut D.i12.symm).far ec.extBut D.TOi2.symm
    have gmc : Side bm hc m ys := ((gm.far ea.extBut D.l2z).far eb.extBut D.l2i1).far ec.extBut D.l2TO
    refine wpAny_bind (cur_stop hh gjc gmc hy fun hd e ed g => ?_)
    obtain ⟨oe, g1, g2⟩ := g
    have gzd : IsZip hd z T U .ellipsis := ed _ _ D.i2z.symm (ec.extBut _ _ D.TOz.symm (eb.extBut _ _ D.i1z.symm gza))
    have ne : e ≠ z := fun c => by subst c; rw [gzd] at g1; cases g1; simp at g2
    exact wpAny_setField_rec gzd (by simp) fun hf _ ef => q hf e (fun c o n1 n2 n3 n4 g => ef.extBut _ _ n1 (ed _ _ n4 (ec.extBut _ _ n2 (eb.extBut _ _ n3 (ea.extBut _ _ n1 g))))) ⟨oe, ef.extBut _ _ ne g1, g2⟩
theorem zip_item {bl bm : Bool} {z T U i j l m : Addr} {k : Nat} {xs ys : Array Value} {x y : Value} {Q : Option Value → Shared → Prop} (D : ZipApart z T U i j l m) (S : Zp bl bm s.heap z T U i j l m k xs ys) (hx : xs[k]? = some x) (hy : ys[k]? = some y)
    (q : ∀ h', IsZip h' z T U (rawInt s.heap.objs.size) → IsPair h' U x y → Cur bl h' i l (k + 1) → Cur bm h' j m (k + 1) → IsPair h' s.heap.objs.size x y → h'.objs.size = s.heap.objs.size + 1 →
      (∀ c o, c ≠ z → c ≠ U → c ≠ i → c ≠ j → s.heap.get? c = some o → h'.get? c = some o) → Q (some (.ref s.heap.objs.size)) { s with heap := h' }) : wpAny (model P w) A (pyNext (.ref z)) Q E s := by
  have ty : s.TypeIs (.ref z) "zip" := ⟨_, S.z, rfl⟩
  unfold pyNext
  refine wpAny_bind (wpAny_attempt (wpAny_callSpecial?_slot (name := Str.ofString "__next__") ty F.slot_zip_next (wpAny_call_entry F.slot_zip_next ty F.entry_zip_next (zp_item D S hx hy fun h' a1 a2 a3 a4 a5 a6 a7 => ?_) (F.args_zip_next_1 _))))
  exact wpAny_pure (q h' a1 a2 a3 a4 a5 a6 a7)
theorem zip_stop {bl bm : Bool} {z T U i j l m : Addr} {k : Nat} {xs ys : Array Value} {Q : Option Value → Shared → Prop} (hh : A.handled = none) (D : ZipApart z T U i j l m) (S : Zp bl bm s.heap z T U i j l m k xs ys) (fin : xs[k]? = none ∨ ys[k]? = none)
    (q : ∀ h', (∀ c o, c ≠ z → c ≠ U → c ≠ i → c ≠ j → s.heap.get? c = some o → h'.get? c = some o) → Q none { s with heap := h' }) : wpAny (model P w) A (pyNext (.ref z)) Q E s := by
  have ty : s.TypeIs (.ref z) "zip" := ⟨_, S.z, rfl⟩
  unfold pyNext
  refine wpAny_bind (wpAny_attempt (wpAny_callSpecial?_slot (name := Str.ofString "__next__") ty F.slot_zip_next (wpAny_call_entry F.slot_zip_next ty F.entry_zip_next (zp_stop hh D S fin fun h' e kp g => ?_) (F.args_zip_next_1 _))))
  obtain ⟨o, g1, g2⟩ := g
  exact wpAny_bind (wpAny_isInstance (T := "StopIteration") (b := true) ⟨o, g1, g2⟩ isSubtype_stop (wpAny_pure (q h' kp)))
end
/-! a new one -/
abbrev zh1 (bl : Bool) (h : Heap) (l : Addr) : Heap := h.push { cls := .type (curTy bl), data := .fields #[.ref l, .int 0 0] }
abbrev zh2 (bl bm : Bool) (h : Heap) (l m : Addr) : Heap := (zh1 bl h l).push { cls := .type (curTy bm), data := .fields #[.ref m, .int 0 0] }
abbrev zh3 (bl bm : Bool) (h : Heap) (l m : Addr) : Heap := (zh2 bl bm h l m).push { cls := .type "tuple", data := .seq #[.ref h.objs.size, .ref (zh1 bl h l).objs.size] }
abbrev zh4 (bl bm : Bool) (h : Heap) (l m : Addr) : Heap := (zh3 bl bm h l m).push { cls := .type "tuple", data := .seq #[.none, .none] }
abbrev zh5 (bl bm : Bool) (h : Heap) (l m : Addr) : Heap := (zh4 bl bm h l m).push { cls := .type "zip", data := .fields #[.none, .bool false, .bool false, .ref (zh2 bl bm h l m).objs.size, .ref (zh3 bl bm h l m).objs.size] }
theorem Side.push {b : Bool} {h : Heap} {l : Addr} {xs : Array Value} (x : Side b h l xs) (o : Obj) : Side b (h.push o) l xs := by
  cases b
  · exact Heap.IsTuple.push x o
  · exact Heap.IsList.push x o
theorem new_zip (bl bm : Bool) (l m : Addr) (xs ys : Array Value) : Meets (Builtin.«zip.__new__» ⟨[.type "zip", .ref l, .ref m], []⟩) (fun _ R s => Side bl s.heap l xs ∧ Side bm s.heap m ys ∧ R (.ok (.ret (.ref (zh4 bl bm s.heap l m).objs.size))) { s with heap := zh5 bl bm s.heap l m }) :=
  .of_wp fun prog w A R s h => by
    obtain ⟨hp, g, d, tk, os⟩ := s
    obtain ⟨a1, a2, h⟩ := h
    have isz := sub_zip
    have a3 := a2.push { cls := .type (curTy bl), data := .fields #[.ref l, .int 0 0] }
    cases bl <;> cases bm
    · have b1 : Heap.IsTuple (Shared.heap ⟨hp, g, d, tk, os⟩) l xs := a1
      have b2 : Heap.IsTuple (Shared.heap ⟨hp.push { cls := .type "tuple_iterator", data := .fields #[.ref l, .int 0 0] }, g, d, tk, os⟩) m ys := a3
      wp_walk using wpAny_pyIter_tuple b1, wpAny_pyIter_tuple b2
      exact ⟨_, rfl, h⟩
    · have b1 : Heap.IsTuple (Shared.heap ⟨hp, g, d, tk, os⟩) l xs := a1
      have b2 : Heap.IsList (Shared.heap ⟨hp.push { cls := .type "tuple_iterator", data := .fields #[.ref l, .int 0 0] }, g, d, tk, os⟩) m ys := a3
      wp_walk using wpAny_pyIter_tuple b1, wpAny_pyIter_list b2
      exact ⟨_, rfl, h⟩
    · have b1 : Heap.IsList (Shared.heap ⟨hp, g, d, tk, os⟩) l xs := a1
      have b2 : Heap.IsTuple (Shared.heap ⟨hp.push { cls := .type "list_iterator", data := .fields #[.ref l, .int 0 0] }, g, d, tk, os⟩) m ys := a3
      wp_walk using wpAny_pyIter_list b1, wpAny_pyIter_tuple b2
      exact ⟨_, rfl, h⟩
    · have b1 : Heap.IsList (Shared.heap ⟨hp, g, d, tk, os⟩) l xs := a1
      have b2 : Heap.IsList (Shared.heap ⟨hp.push { cls := .type "list_iterator", data := .fields #[.ref l, .int 0 0] }, g, d, tk, os⟩) m ys := a3
      wp_walk using wpAny_pyIter_list b1, wpAny_pyIter_list b2
      exact ⟨_, rfl, h⟩
section
variable {P : Program} {w : World} {A : Around} {E : Value → Shared → Prop} {s : Shared}
theorem Cur.new {b : Bool} {h : Heap} {i l : Addr} (e : h.get? i = some { cls := .type (curTy b), data := .fields #[.ref l, .int 0 0] }) : Cur b h i l 0 := by
  cases b
  · exact ⟨_, e, rfl, rfl⟩
  · exact ⟨_, e, rfl, rfl⟩
theorem call_zipM {bl bm : Bool} {l m : Addr} {xs ys : Array Value} {Q : Value → Shared → Prop} (a1 : Side bl s.heap l xs) (a2 : Side bm s.heap m ys)
    (q : ∀ h', IsZip h' (s.heap.objs.size + 4) (s.heap.objs.size + 2) (s.heap.objs.size + 3) .none → IsPair h' (s.heap.objs.size + 2) (.ref s.heap.objs.size) (.ref (s.heap.objs.size + 1)) → IsPair h' (s.heap.objs.size + 3) .none .none →
      Cur bl h' s.heap.objs.size l 0 → Cur bm h' (s.heap.objs.size + 1) m 0 → (∀ c o, s.heap.get? c = some o → h'.get? c = some o) → Q (.ref (s.heap.objs.size + 4)) { s with heap := h' }) :
    wpAny (model P w) A (call (.type "zip") [.ref l, .ref m]) Q E s := by
  refine callType_new F.called_zip (by decide) (F.typeCall_zip_2 _ _) (F.newCall_zip_2 _ _) (fun obj => F.args_object_init_3 obj _ _) F.entry_zip_new (new_zip bl bm l m xs ys) ⟨a1, a2, ?_⟩
  have e1 : (zh1 bl s.heap l).objs.size = s.heap.objs.size + 1 := Heap.size_push ..
  have e2 : (zh2 bl bm s.heap l m).objs.size = s.heap.objs.size + 2 := by rw [Heap.size_push, e1]
  have e3 : (zh3 bl bm s.heap l m).objs.size = s.heap.objs.size + 3 := by rw [Heap.size_push, e2]
  have e4 : (zh4 bl bm s.heap l m).objs.size = s.heap.objs.size + 4 := by rw [Heap.size_push, e3]
  have up : ∀ {h : Heap} {c : Addr} {o o' : Obj}, h.get? c = some o → (h.push o').get? c = some o := fun e => Heap.get?_push_of_some _ e
  have f5 : (zh5 bl bm s.heap l m).get? (zh4 bl bm s.heap l m).objs.size = some _ := Heap.get?_push_size _ rfl
  have f4 : (zh5 bl bm s.heap l m).get? (zh3 bl bm s.heap l m).objs.size = some _ := up (Heap.get?_push_size _ rfl)
  have f3 : (zh5 bl bm s.heap l m).get? (zh2 bl bm s.heap l m).objs.size = some _ := up (up (Heap.get?_push_size _ rfl))
  have f2 : (zh5 bl bm s.heap l m).get? (zh1 bl s.heap l).objs.size = some _ := up (up (up (Heap.get?_push_size _ rfl)))
  have f1 : (zh5 bl bm s.heap l m).get? s.heap.objs.size = some _ := up (up (up (up (Heap.get?_push_size _ rfl))))
  show _ ∧ _
  rw [e2, e3, e4] at f5; rw [e1, e2] at f3; rw [e3] at f4; rw [e1] at f2; rw [e4]
  exact ⟨⟨_, f5, rfl⟩, q _ f5 f3 f4 (.new f1) (.new f2) fun c o x => up (up (up (up (up x))))⟩
end
end Dv

set_option Elab.async false
set_option linter.all false
set_option maxRecDepth 100000
set_option maxHeartbeats 1000000
namespace Dv
open PySem PySem.Spec PyProof.Rows L2 RZ
variable [TabC]

def SqB (b : Bool) (K : PySem.W.Frag) (H : Hp) (a : Addr) (xs : List V) : Prop := match b with | true => SqL K H a xs | false => SqT K H a xs
section
variable {X : L2.Cx} {pins : List (Addr × Obj)} {σ : L2.St} {H : Hp} {s : Shared} {a : Addr} {xs ys : List V} {b : Bool}
theorem sqb_side (I : L2.Inv X pins σ H s) (h : SqB b X.K H a xs) : ∃ us : List Value, Vals xs us ∧ Side b s.heap a us.toArray := by
  cases b
  · obtain ⟨us, r, p, _⟩ := I.tuple h
    exact ⟨us, r, p⟩
  · obtain ⟨us, r, p, _⟩ := I.list h
    exact ⟨us, r, p.isList⟩
theorem sqb_one (I : L2.Inv X pins σ H s) (h : SqB b X.K H a xs) (h' : SqB b X.K H a ys) : xs = ys := by
  cases b
  · exact I.tuple_inj h h'
  · exact I.list_inj h h'
end
/-- pairs of what stands at a and at b -/
def ItzM (bl bm : Bool) (K : PySem.W.Frag) (a b : Addr) : It :=
  ⟨fun k H => ∃ (xs ys : List V) (x y : V), SqB bl K H a xs ∧ SqB bm K H b ys ∧ xs[k]? = some x ∧ ys[k]? = some y,
    fun k H v H' => ∃ N x y, v = .ref N ∧ H N = none ∧ (∃ o, o.dict = none ∧ H' = upd H N (.frz o (.tup [x, y]))) ∧ (∀ xs, SqB bl K H a xs → xs[k]? = some x) ∧ ∀ ys, SqB bm K H b ys → ys[k]? = some y,
    fun k H => ∃ xs ys : List V, SqB bl K H a xs ∧ SqB bm K H b ys ∧ (xs.length ≤ k ∨ ys.length ≤ k)⟩
theorem five {z T U i j c : Addr} (h : c ∈ [z, T, U, i, j]) : c = z ∨ c = T ∨ c = U ∨ c = i ∨ c = j := by simpa using h
theorem turn_zipM {P : Program} {w : World} {K : PySem.W.Frag} {elts : List Expr} {kk : Nat} {tp : Pos} {bl bm : Bool} {a b z T U i j : Addr} (D : ZipApart z T U i j a b) :
    Turn P w K (.Tuple elts kk tp) (ItzM bl bm K a b) [z, T, U, i, j] z (fun k h => IsZip h z T U .none ∧ IsPair h T (.ref i) (.ref j) ∧ (∃ p q, IsPair h U p q) ∧ Cur bl h i a k ∧ Cur bm h j b k) where
  mem := by simp
  obj := fun k h st c hc => by
    obtain ⟨g1, g2, ⟨p, q, g3⟩, g4, g5⟩ := st
    rcases five hc with e | e | e | e | e
    · subst e; exact ⟨_, g1, fun v z => nomatch z⟩
    · subst e; exact ⟨_, g2, fun v z => nomatch z⟩
    · subst e; exact ⟨_, g3, fun v z => nomatch z⟩
    · subst e; exact g4.here
    · subst e; exact g5.here
  keep := fun k h h' st kp => by
    obtain ⟨g1, g2, ⟨p, q, g3⟩, g4, g5⟩ := st
    exact ⟨kp z (by simp) _ g1, kp T (by simp) _ g2, ⟨p, q, kp U (by simp) _ g3⟩, g4.same fun o e => kp i (by simp) o e, g5.same fun o e => kp j (by simp) o e⟩
  item := by
    intro X hP hw hK hc k pins s σ H E I fp st go
    subst hP hw hK
    obtain ⟨g1, g2, g3, g4, g5⟩ := st
    obtain ⟨xs, ys, x, y, q1, q2, hx, hy⟩ := go
    obtain ⟨us, r1, d1⟩ := sqb_side I q1
    obtain ⟨ws, r2, d2⟩ := sqb_side I q2
    obtain ⟨u, hu, ru⟩ := r1.get hx
    obtain ⟨v, hv, rv⟩ := r2.get hy
    have zl : z < s.heap.objs.size := Heap.lt_size g1
    refine zip_item D ⟨g1, g2, g3, g4, g5, d1, d2⟩ (x := u) (y := v) (by simpa using hu) (by simpa using hv) fun h1 b1 b2 b3 b4 b5 b6 b7 => ?_
    refine ⟨_, rfl, wpAny_letOwnedTupleGo_zip (s := { s with heap := h1 }) b1 fun h2 c1 sb => ?_⟩
    have at2 : h2.get? s.heap.objs.size = some { cls := .type "tuple", data := .seq #[u, v] } := (sb.2 _ (Nat.ne_of_gt zl)).trans b5
    let ob : Obj := { cls := .type "tuple", data := .seq #[u, v] }
    have new : ObjOk X.prog X.w (upd H s.heap.objs.size (.frz ob (.tup [x, y]))) h2 s.heap.objs.size (.frz ob (.tup [x, y])) := ⟨at2, (by decide : 2 ≤ sizeLine), [u, v], .cons ru (.cons rv .nil), ⟨_, at2, rfl, _, rfl⟩⟩
    have out : ∀ {c : Addr}, ¬ c ∈ [z, T, U, i, j] → c ≠ z ∧ c ≠ U ∧ c ≠ i ∧ c ≠ j := fun {c} n => ⟨fun e => n (by simp [e]), fun e => n (by simp [e]), fun e => n (by simp [e]), fun e => n (by simp [e])⟩
    have J : L2.Inv X pins σ (upd H s.heap.objs.size (.frz ob (.tup [x, y]))) { s with heap := h2 } :=
      I.turnedNew (t' := s.toks) (ch := [z, T, U, i, j]) (fun c o n e => (sb.2 c (out n).1).trans (b7 c o (out n).1 (out n).2.1 (out n).2.2.1 (out n).2.2.2 e)) fp (Nat.le_refl _) new
    refine ⟨.ref s.heap.objs.size, _, J, rfl, ⟨_, x, y, rfl, I.hok.fresh (Nat.le_refl _), ⟨ob, rfl, rfl⟩, fun l hl => by rw [sqb_one I hl q1]; exact hx, fun l hl => by rw [sqb_one I hl q2]; exact hy⟩, ⟨c1, ?_, ⟨u, v, ?_⟩, ?_, ?_⟩, fun c hcm => ?_⟩
    · exact (sb.2 _ D.TIz).trans (b7 _ _ D.TIz D.TITO D.TIi1 D.TIi2 g2)
    · exact (sb.2 _ D.TOz).trans b2
    · exact b3.same fun o e => (sb.2 _ D.i1z).trans e
    · exact b4.same fun o e => (sb.2 _ D.i2z).trans e
    · have lt : c < s.heap.objs.size := by
        rcases five hcm with e | e | e | e | e
        · subst e; exact zl
        · subst e; exact Heap.lt_size g2
        · obtain ⟨p, q, g⟩ := g3; subst e; exact Heap.lt_size g
        · obtain ⟨o, g, _⟩ := g4.here; subst e; exact Heap.lt_size g
        · obtain ⟨o, g, _⟩ := g5.here; subst e; exact Heap.lt_size g
      rw [upd_ne (Nat.ne_of_lt lt)]
      exact (fp c hcm).1
  done := by
    intro X hP hw hK hc k pins s σ H E I fp st go
    subst hP hw hK
    obtain ⟨g1, g2, g3, g4, g5⟩ := st
    obtain ⟨xs, ys, q1, q2, hend⟩ := go
    obtain ⟨us, r1, d1⟩ := sqb_side I q1
    obtain ⟨ws, r2, d2⟩ := sqb_side I q2
    have n1 := r1.length
    have n2 := r2.length
    have fin : us.toArray[k]? = none ∨ ws.toArray[k]? = none := hend.imp (fun q => by simp; omega) (fun q => by simp; omega)
    exact zip_stop (I.ok.hd hc) D ⟨g1, g2, g3, g4, g5, d1, d2⟩ fin fun h' kp => ⟨rfl, I.turnedL (t' := s.toks) (ch := [z, T, U, i, j]) (fun c o n e => kp c o (fun q => n (by simp [q])) (fun q => n (by simp [q])) (fun q => n (by simp [q])) (fun q => n (by simp [q])) e) fp⟩
  self := fun A k s Q E st h => wpAny_pyIter_zip st.1 h
def iZipM (bl bm : Bool) (K : PySem.W.Frag) (ta : TA) : TI := fun σ H R => ta σ H fun vs H1 => ∃ a b xs ys, vs = [.ref a, .ref b] ∧ SqB bl K H1 a xs ∧ SqB bm K H1 b ys ∧ R (ItzM bl bm K a b) H1
theorem pi_zipM {X : L2.Cx} {bl bm : Bool} {e f : Expr} {ta : TA} {p pos tp : Pos} {elts : List Expr} {kk : Nat} (hg : Gl X "zip") (hm : X.mg "zip" = none) (ha : PA X [e, f] ta)
    (hs : starEach [e, f] X.env = (false, eval e X.env) :: starEach [f] X.env := by rfl) (hpl : (backTo pos (starEach [f] X.env)).any (·.1) = false := by rfl) : PI X (.Tuple elts kk tp) (.Call (.Name "zip" p) [e, f] [] pos) (iZipM bl bm X.K ta) := by
  refine ⟨fun pins s σ H R I h => ?_⟩
  refine Call_ (ld_blt I hg hm boot_zip (callWith_type1 (thn (ha.run pos pins s σ H _ I h) fun us s1 ⟨vs, H1, I1, r1, a, b, xs, ys, ex, q1, q2, q⟩ => ?_) hs hpl))
  subst ex
  cases r1 with
  | cons r rr => cases rr with
    | cons r' rr =>
      cases rr
      cases r
      cases r'
      obtain ⟨us, ru, d1⟩ := sqb_side I1 q1
      obtain ⟨ws, rw1, d2⟩ := sqb_side I1 q2
      let n := s1.heap.objs.size
      have fresh : ∀ c, c ∈ [n + 4, n + 2, n + 3, n, n + 1] → FpOk X pins H1 c := fun c hcm => by
        have le : n ≤ c := by rcases five hcm with z | z | z | z | z <;> (rw [z]; first | exact Nat.le_add_right _ _ | exact Nat.le_refl _)
        exact I1.fpOk le (I1.hok.fresh le)
      have l1 : a < n := by
        cases bl
        · obtain ⟨o, g, _⟩ := d1; exact Heap.lt_size g
        · obtain ⟨o, g, _⟩ := d1; exact Heap.lt_size g
      have l2 : b < n := by
        cases bm
        · obtain ⟨o, g, _⟩ := d2; exact Heap.lt_size g
        · obtain ⟨o, g, _⟩ := d2; exact Heap.lt_size g
      refine call_zipM d1 d2 fun h' g1 g2 g3 g4 g5 kp => wpAny_pyIter_zip g1 ?_
      exact ⟨n + 4, [n + 4, n + 2, n + 3, n, n + 1], _, _, H1, rfl, I1.kept (t' := s1.toks) kp, turn_zipM (PySem.W.ktu_apart n a b l1 l2), ⟨g1, g2, ⟨_, _, g3⟩, g4, g5⟩, fresh, q⟩
end Dv

set_option Elab.async false
set_option linter.all false
set_option maxRecDepth 100000
set_option maxHeartbeats 1000000
/-! enumerate of a list or a tuple -/
namespace Dv
open PySem PySem.Spec PyProof.Rows L2
theorem Side.kind {b : Bool} {h : Heap} {a : Addr} {xs : Array Value} (x : Side b h a xs) : ∃ o, h.get? a = some o ∧ o.cls ≠ .type "enumerate" ∧ ∀ c : Bool, o.cls ≠ .type (curTy c) := by
  cases b
  · obtain ⟨o, e, k, _⟩ := x
    have k : o.cls = .type "tuple" := k
    exact ⟨o, e, by rw [k]; decide, fun c => by rw [k]; cases c <;> decide⟩
  · obtain ⟨o, e, k, _⟩ := x
    have k : o.cls = .type "list" := k
    exact ⟨o, e, by rw [k]; decide, fun c => by rw [k]; cases c <;> decide⟩
theorem Cur.kind {b : Bool} {h : Heap} {i l : Addr} {k : Nat} (x : Cur b h i l k) : ∃ o, h.get? i = some o ∧ o.cls = .type (curTy b) := by
  cases b
  · obtain ⟨o, e, c, _⟩ := x
    exact ⟨o, e, c⟩
  · obtain ⟨o, e, c, _⟩ := x
    exact ⟨o, e, c⟩
theorem side_draws {prog : Program} {w : World} {A : Around} {b : Bool} (hh : A.handled = none) (it l : Addr) (hne : l ≠ it) (xs : Array Value) : Draws prog w A it [it, l] xs.size (fun i v => xs[i]? = some v) (fun i h => Cur b h it l i ∧ Side b h l xs) := by
  cases b
  · exact Draws.tuple hh it l hne xs
  · exact Draws.list hh it l hne xs
theorem call_enumB {P : Program} {w : World} {A : Around} {E : Value → Shared → Prop} {s : Shared} {b : Bool} {l : Addr} {xs : Array Value} {Q : Value → Shared → Prop} (d : Side b s.heap l xs)
    (q : ∀ h', IsEnum h' (s.heap.objs.size + 1) s.heap.objs.size 0 .none → Cur b h' s.heap.objs.size l 0 → h'.objs.size = s.heap.objs.size + 2 → (∀ c o, s.heap.get? c = some o → h'.get? c = some o) → Q (.ref (s.heap.objs.size + 1)) { s with heap := h' }) :
    wpAny (model P w) A (call (.type "enumerate") [.ref l]) Q E s := by
  cases b
  · exact dv_call_enumerate_tuple d q
  · exact call_enumerate_list d q
variable [TabC]
def IteB (bl : Bool) (K : PySem.W.Frag) (a : Addr) : It :=
  ⟨fun i H => ∃ (xs : List V) (x : V), SqB bl K H a xs ∧ xs[i]? = some x, fun i H v H' => ∃ T x, v = .ref T ∧ H T = none ∧ (∃ o, o.dict = none ∧ H' = upd H T (.frz o (.tup [.int (i : Nat), x]))) ∧ ∀ xs, SqB bl K H a xs → xs[i]? = some x, fun i H => ∃ xs : List V, SqB bl K H a xs ∧ xs.length ≤ i⟩
theorem turn_enumB {bl : Bool} {P : Program} {w : World} {K : PySem.W.Frag} {elts : List Expr} {kk : Nat} {tpos : Pos} (a e it : Addr) :
    Turn P w K (.Tuple elts kk tpos) (IteB bl K a) [e, it] e (fun i h => (∃ old, IsEnum h e it ((i : Nat) : Int) old) ∧ Cur bl h it a i ∧ e ≠ it) where
  mem := by simp
  obj := fun i h st b hb => by
    obtain ⟨⟨old, he⟩, hcu, _⟩ := st
    have e' : b = e ∨ b = it := by simpa using hb
    rcases e' with z | z
    · rw [z]; exact ⟨_, he, fun v q => nomatch q⟩
    · rw [z]; exact hcu.here
  keep := fun i h h' st k => let ⟨⟨old, he⟩, hi, hne⟩ := st; ⟨⟨old, k e (by simp) _ he⟩, hi.same fun o q => k it (by simp) o q, hne⟩
  item := by
    intro X hP hw hK hc i pins s σ H E I hf st hg
    subst hP hw hK
    obtain ⟨⟨old, he⟩, hit, hne⟩ := st
    obtain ⟨xs, x, hq, hx⟩ := hg
    obtain ⟨its, rv, p⟩ := sqb_side I hq
    obtain ⟨u, hu, ru⟩ := rv.get hx
    have hel : e < s.heap.objs.size := Heap.lt_size he
    have hil : it < s.heap.objs.size := by obtain ⟨_, q, _⟩ := hit.here; exact Heap.lt_size q
    have hae : a ≠ e := fun z => by
      obtain ⟨o, ho, ne, _⟩ := p.kind
      have he' : s.heap.get? e = some _ := he
      rw [z, he'] at ho; cases ho; exact ne rfl
    have hai : a ≠ it := fun z => by
      obtain ⟨o, ho, _, ne⟩ := p.kind
      obtain ⟨o2, ho2, hoc2⟩ := hit.kind
      rw [z, ho2] at ho; cases ho; exact ne _ hoc2
    refine wpAny_pyNext_enum_itemD (side_draws (prog := X.prog) (w := X.w) (A := X.A.in1) (I.ok.hd hc) it a hai its.toArray) he ⟨hit, p⟩ (by have := (List.getElem?_eq_some_iff.mp hu).1; simpa using this) hne (by simp [hne, Ne.symm hae]) fun x' h' tk hx' ho hit' hT hsz hk => ?_
    have hxu : x' = u := by simpa [hu] using hx'.symm
    subst hxu
    refine ⟨_, rfl, wpAny_letOwnedTupleGo_enum (s := { s with heap := h', toks := tk + 1 }) ho fun h'' he' sb => ?_⟩
    have hT2 : h''.get? s.heap.objs.size = some { cls := .type "tuple", data := .seq #[.int i tk, x'] } := (sb.2 _ (Nat.ne_of_gt hel)).trans hT
    let ob : Obj := { cls := .type "tuple", data := .seq #[.int i tk, x'] }
    have new : ObjOk X.prog X.w (upd H s.heap.objs.size (.frz ob (.tup [.int (i : Nat), x]))) h'' s.heap.objs.size (.frz ob (.tup [.int (i : Nat), x])) :=
      ⟨hT2, by show 2 ≤ sizeLine; decide, [.int i tk, x'], .cons ⟨_, rfl⟩ (.cons ru .nil), ⟨_, hT2, rfl, _, rfl⟩⟩
    have I1 : Inv X pins σ (upd H s.heap.objs.size (.frz ob (.tup [.int (i : Nat), x]))) { s with heap := h'', toks := tk + 1 } :=
      I.turnedNew (ch := [e, it]) (fun b ob hb q => (sb.2 b (fun z => hb (by simp [z]))).trans (hk b ob (fun z => hb (by simp [z])) (fun z => hb (by simp [z])) q)) hf (Nat.le_refl _) new
    refine ⟨.ref s.heap.objs.size, _, I1, rfl, ⟨_, x, rfl, I.hok.fresh (Nat.le_refl _), ⟨ob, rfl, rfl⟩, fun ys hy => by rw [sqb_one I hy hq]; exact hx⟩, ⟨⟨x', ?_⟩, hit'.1.same fun o q => (sb.2 it (Ne.symm hne)).trans q, hne⟩, fun b hb => ?_⟩
    · have e1 : ((i + 1 : Nat) : Int) = (i : Int) + 1 := by omega
      rw [e1]; exact he'
    · have hb' : b < s.heap.objs.size := by
        have e' : b = e ∨ b = it := by simpa using hb
        rcases e' with z | z
        · rw [z]; exact hel
        · rw [z]; exact hil
      rw [upd_ne (Nat.ne_of_lt hb')]
      exact (hf b hb).1
  done := by
    intro X hP hw hK hc i pins s σ H E I hf st hg
    subst hP hw hK
    obtain ⟨⟨old, he⟩, hit, hne⟩ := st
    obtain ⟨xs, hq, hx⟩ := hg
    obtain ⟨its, rv, p⟩ := sqb_side I hq
    obtain ⟨f0, f1, f2, f3, f4, f5⟩ := hf it (by simp)
    have hl := rv.length
    have hT : s.TypeIs (.ref e) "enumerate" := ⟨_, he, rfl⟩
    unfold pyNext
    refine wpAny_bind (wpAny_attempt (wpAny_callSpecial?_slot (name := Str.ofString "__next__") hT F.slot_enumerate_next
      (wpAny_call_entry F.slot_enumerate_next hT F.entry_enumerate_next ?_ (F.args_enumerate_next_1 _))))
    show wpAny _ _ (field (.ref e) 2 >>= _) _ _ _
    refine wpAny_bind (wpAny_field he rfl (x := .ref it) rfl ?_)
    refine wpAny_bind (cur_stop (A := X.A.in1) (I.ok.hd hc) hit p (by simp; omega) fun h' x he' hx' => ?_)
    obtain ⟨o, ho, hoc⟩ := hx'
    refine wpAny_bind (wpAny_isInstance (T := "StopIteration") (b := true) ⟨o, ho, hoc⟩ isSubtype_stop ?_)
    exact wpAny_pure ⟨rfl, I.turned (t' := s.toks) (fun b o hb q => he' b o hb q) f0 f1 f3 f4 f5⟩
  self := fun A i s Q E st h => let ⟨⟨_, he⟩, _⟩ := st; wpAny_pyIter_enum he h
def iEnumB (bl : Bool) (K : PySem.W.Frag) (ta : TA) : TI := fun σ H R => ta σ H fun vs H1 => ∃ a xs, vs = [.ref a] ∧ SqB bl K H1 a xs ∧ R (IteB bl K a) H1
theorem pi_enumB {bl : Bool} {X : Cx} {e : Expr} {ta : TA} {p pos tpos : Pos} {elts : List Expr} {kk : Nat} (hg : Gl X "enumerate") (hm : X.mg "enumerate" = none) (ha : PA X [e] ta) (hs : starEach [e] X.env = [(false, eval e X.env)] := by rfl) :
    PI X (.Tuple elts kk tpos) (.Call (.Name "enumerate" p) [e] [] pos) (iEnumB bl X.K ta) := by
  refine ⟨fun pins s σ H R I h => ?_⟩
  refine Call_ (ld_blt I hg hm boot_enumerate (PyProof.Rows.callWith_type1 (thn (ha.run pos pins s σ H _ I h) fun us s1 ⟨vs, H1, I1, r1, q1⟩ => ?_) hs rfl))
  obtain ⟨a, xs, ex, hq, q⟩ := q1
  subst ex
  cases r1 with
  | cons r rr =>
    cases rr
    cases r
    obtain ⟨its, rv, p⟩ := sqb_side I1 hq
    refine call_enumB p fun h' he hit hsz hk => wpAny_pyIter_enum he ?_
    have I2 : Inv X pins σ H1 { s1 with heap := h' } := I1.kept (t' := s1.toks) hk
    refine ⟨s1.heap.objs.size + 1, [s1.heap.objs.size + 1, s1.heap.objs.size], _, _, H1, rfl, I2, turn_enumB a (s1.heap.objs.size + 1) s1.heap.objs.size, ⟨⟨.none, he⟩, hit, Nat.succ_ne_self _⟩, fun b hb => ?_, q⟩
    have e' : b = s1.heap.objs.size + 1 ∨ b = s1.heap.objs.size := by simpa using hb
    have hle : s1.heap.objs.size ≤ b := by
      rcases e' with z | z
      · rw [z]; exact Nat.le_add_right _ _
      · rw [z]; exact Nat.le_refl _
    exact I1.fpOk hle (I1.hok.fresh hle)
end Dv

set_option Elab.async false
set_option linter.all false
set_option maxRecDepth 100000
set_option maxHeartbeats 4000000
namespace Dv
open PySem L2 RZ
variable [TabC]

/-- what is walked: its items, whatever else comes into the heap; a pair may be made at a turn -/
structure ItOk (G : Ctx) (J : It) (its : List D) (H0 : Hp) : Prop where
  go : ∀ i H, Ex H0 H → i < its.length → J.go i H
  stop : ∀ i H, Ex H0 H → its.length ≤ i → J.stop i H
  yld : ∀ i H x H', Ex H0 H → i < its.length → J.yld i H x H' → ∃ d, its[i]? = some d ∧ ((H' = H ∧ Rep G H0 d x) ∨ ∃ p o vs, H p = none ∧ H' = upd H p (.frz o (.tup vs)) ∧ Rep G (upd H0 p (.frz o (.tup vs))) d x)
def tI (G : Ctx) (ev : Rho → Option (List D × Rho)) : TI := fun σ H R => ∃ ρ its ρ' H0, ev ρ = some (its, ρ') ∧ REnv G ρ σ H0 H ∧
  ∀ J H' H0', Tr ρ σ H0 H ρ' σ H0' H' → REnv G ρ' σ H0' H' → ItOk G J its H0' → R J H'
theorem PI.of {X : L2.Cx} {tg e : Expr} {t : TI} (h : ∀ σ H Q, t σ H Q → ∃ t' : TI, PI X tg e t' ∧ t' σ H Q) : PI X tg e t := ⟨fun pins s σ H Q I q => by
  obtain ⟨t', h1, h2⟩ := h σ H Q q
  exact h1.run pins s σ H Q I h2⟩
section
variable {G : Ctx} {H0 : Hp} {a b : Addr} {vs ws : List V} {ds es : List D}
theorem itok_list (h : H0 a = some (.lst vs)) (r : Reps G H0 ds vs) : ItOk G (Itl G.1 a) ds H0 where
  go := fun i H e hi => by
    obtain ⟨v, h1, _⟩ := r.get (i := i) (List.getElem?_eq_getElem hi)
    exact ⟨vs, v, SqL.of (e _ _ h), h1⟩
  stop := fun i H e hi => ⟨vs, SqL.of (e _ _ h), by rw [← r.length]; exact hi⟩
  yld := fun i H x H' e hi ⟨h1, h2⟩ => by
    obtain ⟨d, q1, q2⟩ := r.get' (h2 vs (SqL.of (e _ _ h)))
    exact ⟨d, q1, .inl ⟨h1, q2⟩⟩
theorem itok_tup (h : Rd H0 a (.tup vs)) (r : Reps G H0 ds vs) : ItOk G (Itt G.1 a) ds H0 where
  go := fun i H e hi => by
    obtain ⟨v, h1, _⟩ := r.get (i := i) (List.getElem?_eq_getElem hi)
    exact ⟨vs, v, (.inl (ex_rd e h)), h1⟩
  stop := fun i H e hi => ⟨vs, (.inl (ex_rd e h)), by rw [← r.length]; exact hi⟩
  yld := fun i H x H' e hi ⟨h1, h2⟩ => by
    obtain ⟨d, q1, q2⟩ := r.get' (h2 vs ((.inl (ex_rd e h))))
    exact ⟨d, q1, .inl ⟨h1, q2⟩⟩
def rangeD (n : Nat) : List D := (List.range n).map fun i => .int (i : Nat)
theorem rangeD_get {n i : Nat} (h : i < n) : (rangeD n)[i]? = some (.int (i : Nat)) := by
  unfold rangeD
  rw [List.getElem?_map, List.getElem?_range h]; rfl
theorem rangeD_len (n : Nat) : (rangeD n).length = n := by simp [rangeD]
theorem itok_range (n : Nat) : ItOk G (Itr 0 n) (rangeD n) H0 where
  go := fun i H e hi => by rw [rangeD_len] at hi; exact hi
  stop := fun i H e hi => by rw [rangeD_len] at hi; exact hi
  yld := fun i H x H' e hi ⟨h1, h2⟩ => by
    rw [rangeD_len] at hi
    exact ⟨_, rangeD_get hi, .inl ⟨h1, by rw [h2, Int.zero_add]; exact rep_int _⟩⟩
def enumD (k : Nat) : List D → List D
  | [] => []
  | d :: ds => .tuple [.int (k : Nat), d] :: enumD (k + 1) ds
theorem enumD_len : ∀ (ds : List D) (k : Nat), (enumD k ds).length = ds.length
  | [], _ => rfl
  | d :: ds, k => by simp [enumD, enumD_len ds (k + 1)]
theorem enumD_get : ∀ {ds : List D} {k i : Nat} {d : D}, ds[i]? = some d → (enumD k ds)[i]? = some (.tuple [.int ((k + i : Nat) : Nat), d])
  | [], _, _, _, h => by simp at h
  | e :: ds, k, 0, d, h => by simp at h; subst h; simp [enumD]
  | e :: ds, k, i + 1, d, h => by
    have := enumD_get (ds := ds) (k := k + 1) (i := i) (d := d) (by simpa using h)
    simp only [enumD, List.getElem?_cons_succ]
    rw [this, show k + 1 + i = k + (i + 1) by omega]
theorem itok_enumB {bl : Bool} (h : ∀ H, Ex H0 H → SqB bl G.1 H a vs) (r : Reps G H0 ds vs) : ItOk G (IteB bl G.1 a) (enumD 0 ds) H0 where
  go := fun i H e hi => by
    rw [enumD_len] at hi
    obtain ⟨v, h1, _⟩ := r.get (i := i) (List.getElem?_eq_getElem hi)
    exact ⟨vs, v, h H e, h1⟩
  stop := fun i H e hi => ⟨vs, h H e, by rw [enumD_len] at hi; rw [← r.length]; exact hi⟩
  yld := fun i H x H' e hi ⟨T, y, h1, h2, ⟨o, ho, h3⟩, h4⟩ => by
    obtain ⟨d, q1, q2⟩ := r.get' (h4 vs (h H e))
    have h0 := e.back h2
    refine ⟨_, enumD_get (k := 0) q1, .inr ⟨T, o, _, h2, h3, ?_⟩⟩
    rw [h1, Nat.zero_add]
    exact rep_tupO (.new ho) (Reps.cons (rep_int _) (Reps.cons (q2.ex (Ex.new h0)) Reps.nil))
def zipD : List D → List D → List D
  | d :: ds, e :: es => .tuple [d, e] :: zipD ds es
  | _, _ => []
theorem zipD_len : ∀ (ds es : List D), (zipD ds es).length = min ds.length es.length
  | [], _ => by simp [zipD]
  | _ :: _, [] => by simp [zipD]
  | d :: ds, e :: es => by simp [zipD, zipD_len ds es]
theorem zipD_get : ∀ {ds es : List D} {i : Nat} {d e : D}, ds[i]? = some d → es[i]? = some e → (zipD ds es)[i]? = some (.tuple [d, e])
  | [], _, _, _, _, h, _ => by simp at h
  | _ :: _, [], _, _, _, _, h => by simp at h
  | d :: ds, e :: es, 0, _, _, h, h' => by simp at h h'; subst h; subst h'; simp [zipD]
  | d :: ds, e :: es, i + 1, _, _, h, h' => by simpa [zipD] using zipD_get (i := i) (by simpa using h) (by simpa using h')
theorem itok_zipM {bl bm : Bool} (h : ∀ H, Ex H0 H → SqB bl G.1 H a vs) (r : Reps G H0 ds vs) (h' : ∀ H, Ex H0 H → SqB bm G.1 H b ws) (r' : Reps G H0 es ws) : ItOk G (ItzM bl bm G.1 a b) (zipD ds es) H0 where
  go := fun i H e hi => by
    rw [zipD_len] at hi
    obtain ⟨v, h1, _⟩ := r.get (i := i) (List.getElem?_eq_getElem (by omega))
    obtain ⟨w, h2, _⟩ := r'.get (i := i) (List.getElem?_eq_getElem (by omega))
    exact ⟨vs, ws, v, w, h H e, h' H e, h1, h2⟩
  stop := fun i H e hi => ⟨vs, ws, h H e, h' H e, by rw [zipD_len] at hi; rw [← r.length, ← r'.length]; omega⟩
  yld := fun i H x H' e hi ⟨T, y, z, h1, h2, ⟨o, ho, h3⟩, h4, h5⟩ => by
    obtain ⟨d, q1, q2⟩ := r.get' (h4 vs (h H e))
    obtain ⟨d', q3, q4⟩ := r'.get' (h5 ws (h' H e))
    have h0 := e.back h2
    refine ⟨_, zipD_get q1 q3, .inr ⟨T, o, _, h2, h3, ?_⟩⟩
    rw [h1]
    exact rep_tupO (.new ho) (Reps.cons (q2.ex (Ex.new h0)) (Reps.cons (q4.ex (Ex.new h0)) Reps.nil))
end

/-! ### the sources -/
inductive Src where
  | plain (e : Expr) | range (e : Expr) (p pos : Pos) | enum (e : Expr) (p pos : Pos) | zip (e e2 : Expr) (p pos : Pos)
def isTupT : Expr → Bool
  | .Tuple .. => true
  | _ => false
def notSet : Expr → Bool
  | .Set .. => false
  | _ => true
def srcOf (sc : Scope) (tg : Expr) : Expr → Src
  | .Call (.Name f p) [a] [] pos => if f = "range" ∧ globB sc "range" = true then .range a p pos else if f = "enumerate" ∧ globB sc "enumerate" = true ∧ isTupT tg = true then .enum a p pos else .plain (.Call (.Name f p) [a] [] pos)
  | .Call (.Name f p) [a, b] [] pos => if f = "zip" ∧ globB sc "zip" = true ∧ isTupT tg = true then .zip a b p pos else .plain (.Call (.Name f p) [a, b] [] pos)
  | e => .plain e
def SrcIs (sc : Scope) (tg e : Expr) : Src → Prop
  | .plain e' => e' = e
  | .range a p pos => e = .Call (.Name "range" p) [a] [] pos ∧ globB sc "range" = true
  | .enum a p pos => e = .Call (.Name "enumerate" p) [a] [] pos ∧ globB sc "enumerate" = true ∧ isTupT tg = true
  | .zip a b p pos => e = .Call (.Name "zip" p) [a, b] [] pos ∧ globB sc "zip" = true ∧ isTupT tg = true
theorem srcIs {sc : Scope} {tg e : Expr} : SrcIs sc tg e (srcOf sc tg e) := by
  unfold srcOf
  split
  · split
    · rename_i h; obtain ⟨rfl, h2⟩ := h; exact ⟨rfl, h2⟩
    · split
      · rename_i h; obtain ⟨rfl, h2⟩ := h; exact ⟨rfl, h2⟩
      · rfl
  · split
    · rename_i h; obtain ⟨rfl, h2⟩ := h; exact ⟨rfl, h2⟩
    · rfl
  · rfl
def itE (sc : Scope) (ev : Rho → Expr → Option (D × Rho)) (tg iter : Expr) (ρ : Rho) : Option (List D × Rho) :=
  match srcOf sc tg iter with
  | .plain e => match ev ρ e with
    | some (.list xs, ρ1) => some (xs, ρ1)
    | some (.tuple xs, ρ1) => some (xs, ρ1)
    | _ => none
  | .range a _ _ => if notStar a then match ev ρ a with
      | some (.int j, ρ1) => if j < 2 ^ 62 ∧ -(2 ^ 62) ≤ j then some (rangeD j.toNat, ρ1) else none
      | _ => none
    else none
  | .enum a _ _ => if notStar a then match ev ρ a with
      | some (.list xs, ρ1) => some (enumD 0 xs, ρ1)
      | some (.tuple xs, ρ1) => some (enumD 0 xs, ρ1)
      | _ => none
    else none
  | .zip a b _ _ => match evDs ev [a, b] ρ with
      | some ([.list xs, .list ys], ρ1) => if notStar a && notStar b then some (zipD xs ys, ρ1) else none
      | some ([.tuple xs, .tuple ys], ρ1) => if notStar a && notStar b then some (zipD xs ys, ρ1) else none
      | some ([.list xs, .tuple ys], ρ1) => if notStar a && notStar b then some (zipD xs ys, ρ1) else none
      | some ([.tuple xs, .list ys], ρ1) => if notStar a && notStar b then some (zipD xs ys, ρ1) else none
      | _ => none
section
variable {X : L2.Cx} {C : Cf} {sc : Scope} {k : Nat}
theorem pi_src (K : COk C sc k X) {ev : Rho → Expr → Option (D × Rho)} (h : ∀ e, PE X e (tD (Cx.G X) fun ρ => ev ρ e)) (tg iter : Expr) : PI X tg iter (tI (Cx.G X) (itE sc ev tg iter)) := PI.of fun σ H R q => by
  obtain ⟨ρ, its, ρ', H0, hev, E, q⟩ := q
  have hs := @srcIs _ sc tg iter
  unfold itE at hev
  split at hev
  · rename_i e he
    rw [he] at hs
    have hs : e = iter := hs
    subst hs
    split at hev
    · rename_i xs ρ1 h1
      cases hev
      refine ⟨_, pi_list (h e), ρ, _, _, H0, h1, E, fun v H1 H01 T1 E1 r1 => ?_⟩
      obtain ⟨a, vs, rfl, e1, e2⟩ := r1.lst
      exact ⟨a, rfl, ⟨vs, SqL.of (E1.ex _ _ e1)⟩, q _ _ _ T1 E1 (itok_list e1 e2)⟩
    · rename_i xs ρ1 h1
      cases hev
      refine ⟨_, pi_tup (h e), ρ, _, _, H0, h1, E, fun v H1 H01 T1 E1 r1 => ?_⟩
      obtain ⟨a, vs, rfl, e1, e2⟩ := r1.tup
      exact ⟨a, rfl, ⟨vs, (.inl (ex_rd E1.ex e1))⟩, q _ _ _ T1 E1 (itok_tup e1 e2)⟩
    · cases hev
  · rename_i a p pos he
    rw [he] at hs
    obtain ⟨rfl, hg⟩ := hs
    split at hev
    · rename_i hn
      split at hev
      · rename_i j ρ1 h1
        split at hev
        · rename_i hj
          cases hev
          refine ⟨_, pi_range1 (gl_of K.toCOkB hg) K.isi.2.1 (pa_cons (h a) pa_nil (star_of hn)) (star_of hn), ρ, _, _, H0, h1, E, fun v H1 H01 T1 E1 r1 => ?_⟩
          exact ⟨j, by rw [r1.int], hj.2, hj.1, q _ _ _ T1 E1 (itok_range _)⟩
        · cases hev
      · cases hev
    · cases hev
  · rename_i a p pos he
    rw [he] at hs
    obtain ⟨rfl, hg, ht⟩ := hs
    cases tg <;> first | (simp [isTupT] at ht; done) | skip
    split at hev
    · rename_i hn
      split at hev
      · rename_i xs ρ1 h1
        cases hev
        refine ⟨_, pi_enumB (bl := true) (gl_of K.toCOkB hg) K.isi.2.2.1 (pa_cons (h a) pa_nil (star_of hn)) (star_of hn), ρ, _, _, H0, h1, E, fun v H1 H01 T1 E1 r1 => ?_⟩
        obtain ⟨l, vs, rfl, e1, e2⟩ := r1.lst
        exact ⟨l, vs, rfl, SqL.of (E1.ex _ _ e1), q _ _ _ T1 E1 (itok_enumB (fun H e => SqL.of (e _ _ e1)) e2)⟩
      · rename_i xs ρ1 h1
        cases hev
        refine ⟨_, pi_enumB (bl := false) (gl_of K.toCOkB hg) K.isi.2.2.1 (pa_cons (h a) pa_nil (star_of hn)) (star_of hn), ρ, _, _, H0, h1, E, fun v H1 H01 T1 E1 r1 => ?_⟩
        obtain ⟨l, vs, rfl, e1, e2⟩ := r1.tup
        exact ⟨l, vs, rfl, (.inl (ex_rd E1.ex e1)), q _ _ _ T1 E1 (itok_enumB (fun H e => .inl (ex_rd e e1)) e2)⟩
      · cases hev
    · cases hev
  · rename_i a b p pos he
    rw [he] at hs
    obtain ⟨rfl, hg, ht⟩ := hs
    cases tg <;> first | (simp [isTupT] at ht; done) | skip
    split at hev
    · rename_i xs ys ρ1 h1
      split at hev
      · rename_i hn
        simp only [Bool.and_eq_true] at hn
        cases hev
        refine ⟨_, pi_zipM (bl := true) (bm := true) (gl_of K.toCOkB hg) K.isi.2.2.2.1 (pa_of h [a, b]) (star_of hn.1) (star_plain (by simp [hn.2])), ρ, _, _, H0, h1, E, fun vs H1 H01 T1 E1 r1 => ?_⟩
        obtain ⟨v, w, rfl, r1, r2⟩ := r1.two
        obtain ⟨l, vs, rfl, e1, e2⟩ := r1.lst
        obtain ⟨m, ws, rfl, e3, e4⟩ := r2.lst
        exact ⟨l, m, vs, ws, rfl, SqL.of (E1.ex _ _ e1), SqL.of (E1.ex _ _ e3), q _ _ _ T1 E1 (itok_zipM (fun H e => SqL.of (e _ _ e1)) e2 (fun H e => SqL.of (e _ _ e3)) e4)⟩
      · cases hev
    · rename_i xs ys ρ1 h1
      split at hev
      · rename_i hn
        simp only [Bool.and_eq_true] at hn
        cases hev
        refine ⟨_, pi_zipM (bl := false) (bm := false) (gl_of K.toCOkB hg) K.isi.2.2.2.1 (pa_of h [a, b]) (star_of hn.1) (star_plain (by simp [hn.2])), ρ, _, _, H0, h1, E, fun vs H1 H01 T1 E1 r1 => ?_⟩
        obtain ⟨v, w, rfl, r1, r2⟩ := r1.two
        obtain ⟨l, vs, rfl, e1, e2⟩ := r1.tup
        obtain ⟨m, ws, rfl, e3, e4⟩ := r2.tup
        exact ⟨l, m, vs, ws, rfl, .inl (ex_rd E1.ex e1), .inl (ex_rd E1.ex e3), q _ _ _ T1 E1 (itok_zipM (fun H e => .inl (ex_rd e e1)) e2 (fun H e => .inl (ex_rd e e3)) e4)⟩
      · cases hev
    · rename_i xs ys ρ1 h1
      split at hev
      · rename_i hn
        simp only [Bool.and_eq_true] at hn
        cases hev
        refine ⟨_, pi_zipM (bl := true) (bm := false) (gl_of K.toCOkB hg) K.isi.2.2.2.1 (pa_of h [a, b]) (star_of hn.1) (star_plain (by simp [hn.2])), ρ, _, _, H0, h1, E, fun vs H1 H01 T1 E1 r1 => ?_⟩
        obtain ⟨v, w, rfl, r1, r2⟩ := r1.two
        obtain ⟨l, vs, rfl, e1, e2⟩ := r1.lst
        obtain ⟨m, ws, rfl, e3, e4⟩ := r2.tup
        exact ⟨l, m, vs, ws, rfl, SqL.of (E1.ex _ _ e1), .inl (ex_rd E1.ex e3), q _ _ _ T1 E1 (itok_zipM (fun H e => SqL.of (e _ _ e1)) e2 (fun H e => .inl (ex_rd e e3)) e4)⟩
      · cases hev
    · rename_i xs ys ρ1 h1
      split at hev
      · rename_i hn
        simp only [Bool.and_eq_true] at hn
        cases hev
        refine ⟨_, pi_zipM (bl := false) (bm := true) (gl_of K.toCOkB hg) K.isi.2.2.2.1 (pa_of h [a, b]) (star_of hn.1) (star_plain (by simp [hn.2])), ρ, _, _, H0, h1, E, fun vs H1 H01 T1 E1 r1 => ?_⟩
        obtain ⟨v, w, rfl, r1, r2⟩ := r1.two
        obtain ⟨l, vs, rfl, e1, e2⟩ := r1.tup
        obtain ⟨m, ws, rfl, e3, e4⟩ := r2.lst
        exact ⟨l, m, vs, ws, rfl, .inl (ex_rd E1.ex e1), SqL.of (E1.ex _ _ e3), q _ _ _ T1 E1 (itok_zipM (fun H e => .inl (ex_rd e e1)) e2 (fun H e => SqL.of (e _ _ e3)) e4)⟩
      · cases hev
    · cases hev
end
end Dv

set_option Elab.async false
set_option linter.all false
set_option maxRecDepth 100000
set_option maxHeartbeats 400000
namespace Dv
open PySem PySem.Spec PyProof.Rows L2 RZ
variable [TabC]

/-! ### tuple(l), all of the new tuple known -/
section
variable {X : L2.Cx} {a : Expr} {ta : TE} {p pos : Pos}
def kTupK (K : PySem.W.Frag) (x : V) (H : Hp) (Q : VK) : Prop := ∃ l xs, x = .ref l ∧ SqL K H l xs ∧ ∀ q o, H q = none → o.dict = none → Q (.ref q) (upd H q (.frz o (.tup xs)))
theorem rl_tupK (pins : List (Addr × Obj)) (s : Shared) (σ : L2.St) (H : Hp) (x : V) (v : Value) (Q : VK) (I : Inv X pins σ H s) (r : RelV x v) (h : kTupK X.K x H Q) :
    wpAny (model X.prog X.w) X.A (call (.type "tuple") [v]) (EP X pins σ Q) X.xe s := by
  obtain ⟨l, xs, rfl, hl, q⟩ := h
  have e : v = .ref l := r
  subst e
  obtain ⟨us, hu, pl, small⟩ := I.list hl
  have sz : us.toArray.size ≤ sizeLine := by rw [List.size_toArray, ← hu.length]; exact small
  refine call_tuple_list pl.isList (fun h2 kp => ?_) sz
  have J : Inv X pins σ H { s with heap := h2 } := I.kept (t' := s.toks) kp
  let ob : Obj := { cls := .type "tuple", data := .seq us.toArray }
  have new : (h2.push ob).get? h2.objs.size = some ob := Heap.get?_push_size _ rfl
  have J2 : Inv X pins σ (upd H h2.objs.size (.frz ob (.tup xs))) { s with heap := h2.push ob } :=
    J.laid (t' := s.toks) (fun b o e => Heap.get?_push_of_some _ e) (Nat.le_refl _) (show ObjOk X.prog X.w _ _ _ (.frz ob (.tup xs)) from ⟨new, small, us, hu, ⟨ob, new, rfl, _, rfl⟩⟩)
  exact ⟨.ref h2.objs.size, upd H h2.objs.size (.frz ob (.tup xs)), J2, rfl, q _ ob (J.hok.fresh (Nat.le_refl _)) rfl⟩
theorem pe_tupK (hg : Gl X "tuple") (hm : X.mg "tuple" = none) (ha : PE X a ta) (na : starEach [a] X.env = (false, eval a X.env) :: starEach [] X.env := by rfl) :
    PE X (.Call (.Name "tuple" p) [a] [] pos) (tThen ta (kTupK X.K)) :=
  ⟨fun pins s σ H Q I h => Call_ (ld_blt I hg hm boot_tuple (PyProof.Rows.callWith_type1 (one_arg ha I h (fun v t x H2 J r q => rl_tupK pins t σ H2 x v Q J r q) na) na))⟩
end
def tupNE (ev : Rho → Option (D × Rho)) (ρ : Rho) : Option (Sl × Rho) := match ev ρ with
  | some (.list xs, ρ1) => some (.tt xs, ρ1)
  | _ => none
section
variable {X : L2.Cx} {C : Cf} {sc : Scope} {k : Nat} {a : Expr} {p pos : Pos} {ev : Rho → Option (D × Rho)}
theorem pe_tupNS (K : COk C sc k X) (h : PE X a (tD (Cx.G X) ev)) (hst : notStar a = true) (h1 : globB sc "tuple" = true) : PE X (.Call (.Name "tuple" p) [a] [] pos) (tS (Cx.G X) (tupNE ev)) := PE.of fun σ H Q q => by
  refine ⟨_, pe_tupK (gl_of K.toCOkB h1) K.tys.2.2.1 h (star_of hst), ?_⟩
  obtain ⟨ρ, s, ρ', H0, hev, E, q⟩ := q
  unfold tupNE at hev
  split at hev
  · rename_i xs ρ1 e1
    cases hev
    refine ⟨ρ, _, _, H0, e1, E, fun v H1 H01 T1 E1 r1 => ?_⟩
    obtain ⟨l, vs, rfl, g1, g2⟩ := r1.lst
    refine ⟨l, vs, rfl, SqL.of (E1.ex _ _ g1), fun b o hb ho => ?_⟩
    have hb0 := E1.ex.back hb
    exact q _ _ _ (T1.trans (Tr.newI hb hb0)) (E1.newI hb) ⟨b, rfl, o, vs, upd_same, ho, g2.ex (Ex.new hb0)⟩
  · cases hev

/-! ### t.count(x) -/
theorem countP_eqU {x : V} : ∀ {xs : List V} {us : List Value}, Vals xs us → xs.all flatV = true → us.countP (eqU x) = xs.countP fun y => eqV y x
  | _, _, .nil, _ => rfl
  | y :: xs, u :: us, .cons r t, f => by
    rw [List.all_cons, Bool.and_eq_true] at f
    rw [List.countP_cons, List.countP_cons, countP_eqU t f.2, eqU_of r f.1]
def tCntT (to : TE) (ta : TA) : TE := fun σ H Q => to σ H fun x H1 => (∃ b o xs, x = .ref b ∧ H1 b = some (.frz o (.tup xs)) ∧ o.dict = none) ∧ ta σ H1 fun ys H2 =>
  ∃ b o xs y, x = .ref b ∧ ys = [y] ∧ H2 b = some (.frz o (.tup xs)) ∧ flatV y = true ∧ xs.all flatV = true ∧ Q (.int (xs.countP fun z => eqV z y : Nat)) H2
theorem pe_tcount {o e : Expr} {to : TE} {ta : TA} {apos cpos : Pos} (ho : PE X o to) (ha : PA X [e] ta) (hbase : attributeBase o "count" X.env (eval o X.env) = eval o X.env)
    (hline : (apos.endLine == cpos.line) = true) (hs : starEach [e] X.env = (false, eval e X.env) :: starEach [] X.env) : PE X (.Call (.Attribute o "count" apos) [e] [] cpos) (tCntT to ta) := by
  have hfew : ((backTo cpos (starEach [e] X.env)).all (fun x => !x.1) && (backToKw cpos (keywordEach [] X.env)).all (fun x => x.1.isSome) && decide ([e].length + ([] : List Keyword).length + (if ([] : List Keyword).isEmpty then 0 else 1) < 30)) = true := by
    rw [hs]; rfl
  refine ⟨fun pins s σ H Q I h => ?_⟩
  refine wpAny_Call_method_late hbase hfew hline rfl (thn (ho.run pins s σ H _ I h) fun v s1 ⟨x, H1, I1, r1, ⟨b, ob, xs, ex, hb, hd⟩, q1⟩ => ?_)
  subst ex
  cases r1
  obtain ⟨g1, _, us, _, ⟨o2, g2, g3, _⟩⟩ := I1.hok b _ hb
  rw [g1] at g2
  cases g2
  refine ⟨"tuple", "tuple.count", PySem.F.plainAttrs_tuple, PySem.F.slot_tuple_count, PySem.F.type_tuple_count, ⟨ob, g1, g3⟩, fun c e => by cases e; exact ⟨ob, g1, hd⟩, ?_⟩
  have step := ha.run cpos pins s1 σ H1 _ I1 q1
  rw [hs] at step ⊢
  refine Calls.callWith_builtin rfl (Calls.evalArgs_plain (thn step fun ws s2 ⟨ys, H2, I2, r2, b', ob', zs, y, e1, e2, hb', fy, fs, q⟩ => ?_))
  subst e2
  cases e1
  obtain ⟨u, rfl, ru⟩ := r2.one
  obtain ⟨k1, _, ts, rw1, ⟨⟨cls, dd, data, sl⟩, k2, k3, n, k4⟩⟩ := I2.hok b _ hb'
  simp only at k3 k4
  subst k3 k4
  refine call_meets PySem.F.slot_tuple_count ⟨_, k2, rfl⟩ PySem.F.entry_tuple_count (PySem.F.args_tuple_count_2 _ _) (SeqAt.tuple_countAt b ts.toArray n dd sl u (eqU y)) ⟨k2, fun z hz => mem_eqAt ru fy rw1 fs z (by simpa using hz), ?_⟩
  have e2 : ts.toArray.toList.countP (eqU y) = zs.countP fun z => eqV z y := countP_eqU rw1 fs
  refine ⟨.int (zs.countP fun z => eqV z y : Nat), H2, I2.tok _, ⟨s2.toks, ?_⟩, q⟩
  show Value.int ((ts.toArray.toList.countP (eqU y) : Nat) : Int) s2.toks = Value.int ((zs.countP fun z => eqV z y : Nat) : Int) s2.toks
  rw [e2]
/-- how often a datum stands in data -/
def cntD (d : D) (ds : List D) : Nat := ds.countP fun y => PyData.eqv y d
theorem cntD_of {G : Ctx} {H : Hp} {d : D} {x : V} (h : flatD d = true) (r : Rep G H d x) : ∀ {ds : List D} {vs : List V}, ds.all flatD = true → Reps G H ds vs → (vs.countP fun z => eqV z x) = cntD d ds
  | [], _, _, q => by simp only [Reps] at q; subst q; rfl
  | e :: ds, _, ha, q => by
    simp only [Reps] at q
    obtain ⟨w, ws, rfl, h1, h2⟩ := q
    simp only [List.all_cons, Bool.and_eq_true] at ha
    have ih := cntD_of h r ha.2 h2
    unfold cntD at *
    rw [List.countP_cons, List.countP_cons, ih, eqV_of ha.1 h h1 r]
/-- x.count(e), x a name of a tuple all known -/
def cntE (i : Nat) (ev : Rho → Option (D × Rho)) (ρ : Rho) : Option (D × Rho) := match ρ[i]? with
  | some (some (.tt ds)) => match ev ρ with
    | some (d, ρ1) => if flatD d = true ∧ ds.all flatD = true then some (.int (cntD d ds : Nat), ρ1) else none
    | none => none
  | some (some (.im (.tuple ds))) => match ev ρ with
    | some (d, ρ1) => if flatD d = true ∧ ds.all flatD = true then some (.int (cntD d ds : Nat), ρ1) else none
    | none => none
  | _ => none
theorem pe_cntD (K : COk C sc k X) {x : Str} {px apos cpos : Pos} {i : Nat} {e : Expr} {ev : Rho → Option (D × Rho)} (hi : slotE C sc x = some i) (he : PE X e (tD (Cx.G X) ev)) (hst : notStar e = true) (hline : (apos.endLine == cpos.line) = true) :
    PE X (.Call (.Attribute (.Name x px) "count" apos) [e] [] cpos) (tD (Cx.G X) (cntE i ev)) := PE.of fun σ H Q q => by
  refine ⟨_, pe_tcount (slot_pe K.toCOkB hi) (pa_cons he pa_nil (star_of hst)) rfl hline (star_of hst), ?_⟩
  obtain ⟨ρ, d, ρ', H0, hev, E, q⟩ := q
  have hit : ∃ ds b, σ[i]? = some (some (.ref b)) ∧ TupN (Cx.G X) H0 b ds ∧ (match ev ρ with
      | some (d, ρ1) => if flatD d = true ∧ ds.all flatD = true then some (PyData.int (cntD d ds : Nat), ρ1) else none
      | none => none) = some (d, ρ') := by
    unfold cntE at hev
    split at hev
    · rename_i ds hx
      obtain ⟨b, h1, h2⟩ := E.tt i ds hx
      exact ⟨ds, b, h1, h2, hev⟩
    · rename_i ds hx
      obtain ⟨v, h1, h2⟩ := E.im i _ hx
      obtain ⟨b, rfl, h3⟩ := h2.tupN
      exact ⟨ds, b, h1, h3, hev⟩
    · cases hev
  clear hev
  obtain ⟨ds, b, h1, ⟨o, vs, h2, h3, h4⟩, hev⟩ := hit
  split at hev
  · rename_i y ρ1 e1
    split at hev
    · rename_i hf
      cases hev
      refine ⟨_, h1, ⟨b, o, vs, rfl, E.ex _ _ h2, h3⟩, ρ, y, ρ', H0, e1, E, fun v H1 H01 T1 E1 r1 => ?_⟩
      have r4 := h4.ex T1.ex
      obtain ⟨fs, _⟩ := inV_of hf.1 r1 hf.2 r4
      refine ⟨b, o, vs, v, rfl, rfl, E1.ex _ _ (T1.ex _ _ h2), flat_v hf.1 r1, fs, ?_⟩
      rw [cntD_of hf.1 r1 hf.2 r4]
      exact q _ _ _ T1 E1 (rep_int _)
    · cases hev
  · cases hev
end
end Dv

set_option Elab.async false
set_option linter.all false
set_option maxRecDepth 100000
set_option maxHeartbeats 400000
namespace Dv
open PySem PySem.Spec PyProof.Rows L2 RZ
variable [TabC]

/-! ### t[::-1] -/
theorem back_adj (n : Nat) : Builtin.Slice.sliceAdjust none none (-1) (n : Int) = ((n : Int) - 1, -1) := rfl
theorem back_n (n : Nat) : Builtin.Slice.slicePlaces ((n : Int) - 1) (-1) (-1) = n := by
  unfold Builtin.Slice.slicePlaces
  rw [if_neg (by decide : ¬ ((-1 : Int) > 0))]
  by_cases h : n = 0
  · subst h; rfl
  · rw [if_pos (by omega)]
    show (((n : Int) - 1 - -1 - 1) / 1 + 1).toNat = n
    rw [Int.ediv_one]
    omega
theorem back_items (xs : List Value) : ((List.range xs.length).filterMap fun (m : Nat) => xs.toArray[(((xs.length : Nat) : Int) - 1 + (m : Int) * -1).toNat]?) = xs.reverse := by
  have h : ∀ n, n ≤ xs.length → ((List.range n).filterMap fun (m : Nat) => xs.toArray[(((xs.length : Nat) : Int) - 1 + (m : Int) * -1).toNat]?) = xs.reverse.take n := fun n => by
    induction n with
    | zero => intro _; rfl
    | succ n ih =>
      intro hn
      rw [List.range_succ, List.filterMap_append, ih (by omega), List.take_add_one]
      congr 1
      have e : (((xs.length : Nat) : Int) - 1 + (n : Int) * -1).toNat = xs.length - 1 - n := by omega
      rw [List.filterMap_cons, e]
      rw [List.getElem?_reverse (by omega), List.getElem?_toArray]
      rw [List.getElem?_eq_getElem (by omega)]
      rfl
  rw [h _ (Nat.le_refl _), List.take_of_length_le (by simp)]
section
variable {P : Program} {w : World} {A : Around} {E : Value → Shared → Prop} {s : Shared}
theorem applied_back {b : Addr} {n : Nat} {t : Tok} {Q : Int × Int × Nat → Shared → Prop} (hb : s.heap.get? b = some { cls := .type "slice", data := .fields #[.none, .none, .int (-1) t] }) (h : Q ((n : Int) - 1, -1, n) s) :
    wpAny (model P w) A (Builtin.Slice.sliceApplied (.ref b) (pure (n : Int))) Q E s := by
  unfold Builtin.Slice.sliceApplied Builtin.Slice.sliceFields
  refine wpAny_bind (wpAny_bind (wpAny_field hb rfl (x := .none) rfl (wpAny_bind (wpAny_field hb rfl (x := .none) rfl (wpAny_bind (wpAny_field hb rfl (x := .int (-1) t) rfl (wpAny_pure ?_)))))))
  refine wpAny_bind (slicePart_int ?_)
  show wpAny _ _ (if ((-1 : Int) == 0) = true then _ else _) _ _ s
  rw [if_neg (by decide)]
  refine wpAny_bind (slicePart_none (wpAny_bind (slicePart_none (wpAny_bind (wpAny_pure ?_)))))
  show wpAny _ _ (match Builtin.Slice.sliceAdjust none none (-1) (n : Int) with | (lo, hi) => pure (lo, (-1 : Int), Builtin.Slice.slicePlaces lo hi (-1))) _ _ s
  rw [back_adj n]
  show wpAny _ _ (pure ((n : Int) - 1, (-1 : Int), Builtin.Slice.slicePlaces ((n : Int) - 1) (-1) (-1))) _ _ s
  rw [back_n]
  exact wpAny_pure h
theorem item_back {a b : Addr} {us : List Value} {t : Tok} {Q : Value → Shared → Prop} (ha : IsTup s.heap a us.toArray) (hb : s.heap.get? b = some { cls := .type "slice", data := .fields #[.none, .none, .int (-1) t] }) (sm : us.length ≤ sizeLine)
    (h : Q (.ref s.heap.objs.size) { s with heap := s.heap.push { cls := .type "tuple", data := .seq us.reverse.toArray } }) : wpAny (model P w) A (getItem (.ref a) (.ref b)) Q E s := by
  have ty : s.TypeIs (.ref b) "slice" := ⟨_, hb, rfl⟩
  have fit : sizeOk (.seq us.reverse.toArray) := by
    show us.reverse.toArray.size ≤ sizeLine
    rw [List.size_toArray, List.length_reverse]; exact sm
  unfold getItem
  try with_reducible (refine wpAny_holding ?_)
  first | (refine wpAny_bind (wpAny_pure ?_)) | skip
  refine wpAny_bind (wpAny_sequenceKey (by exact ha.typeIs) (by decide) ?_)
  refine wpAny_bind (wpAny_callSpecial?_slot (name := Str.ofString "__getitem__") (by exact ha.typeIs) PyProof.Rows.slot_tuple_getitem (wpAny_call_entry PyProof.Rows.slot_tuple_getitem ha.typeIs entry_tuple_getitem ?_ (args_tuple_getitem _ _)))
  show wpAny _ _ (Builtin.Tuple.tupleItemsOf (.ref a) >>= _) _ _ s
  refine wpAny_bind (tupleItemsOf_ ha ?_)
  refine wpAny_bind (wpAny_typeOf ty ?_)
  rw [if_pos (by decide)]
  refine wpAny_bind (applied_back (n := us.toArray.size) hb ?_)
  show wpAny _ _ (if (((us.toArray.size : Nat) : Int) - 1 == 0 && (-1 : Int) == 1 && us.toArray.size == us.toArray.size) = true then _ else _) _ _ s
  rw [if_neg (fun z => by rw [Bool.and_eq_true, Bool.and_eq_true] at z; exact absurd z.1.2 (by decide))]
  have e : ((List.range us.toArray.size).filterMap fun (m : Nat) => us.toArray[(((us.toArray.size : Nat) : Int) - 1 + (m : Int) * -1).toNat]?).toArray = us.reverse.toArray := by
    rw [List.size_toArray, back_items]
  rw [e]
  first
    | exact wpAny_bind (m := Builtin.Tuple.tupleExact _) (wpAny_newObj_type (wpAny_pure ⟨_, rfl, wpAny_pure h⟩) fit)
    | exact wpAny_bind (m := Builtin.Tuple.tupleExact _) (wpAny_newObj_type (wpAny_bind (wpAny_pure (wpAny_pure ⟨_, rfl, wpAny_pure h⟩))) fit)
    | exact wpAny_bind (wpAny_bind (m := Builtin.Tuple.tupleExact _) (wpAny_newObj_type (wpAny_pure (wpAny_pure ⟨_, rfl, wpAny_pure h⟩)) fit))
end
section
variable {X : L2.Cx}
def tBack (K : PySem.W.Frag) (te ts : TE) : TE := fun σ H Q => te σ H fun x H1 => ts σ H1 fun y H2 => ∃ a xs, x = .ref a ∧ y = .int (-1) ∧ SqT K H2 a xs ∧ NewT xs.reverse H2 Q
theorem pe_back {e st : Expr} {te ts : TE} {p pos : Pos} (he : PE X e te) (hs : PE X st ts) : PE X (.Subscript e (.Slice none none (some st) p) pos) (tBack X.K te ts) := by
  refine ⟨fun pins s σ H Q I h => ?_⟩
  refine Subscript_ (thn (he.run pins s σ H _ I h) fun v s1 ⟨x, H1, I1, r1, q1⟩ => ?_)
  refine wpAny_Slice ?_
  rw [evalPart_none]
  refine wpAny_pure (wpAny_pure ?_)
  rw [evalPart_some]
  refine thn (hs.run pins s1 σ H1 _ I1 q1) fun z s2 ⟨y, H2, I2, r2, a, xs, ex, ey, hx, q⟩ => ?_
  subst ex; subst ey
  cases r1
  obtain ⟨t, rfl⟩ := r2
  let ob : Obj := { cls := .type "slice", data := .fields #[.none, .none, .int (-1) t] }
  have old : ∀ b o, s2.heap.get? b = some o → (s2.heap.push ob).get? b = some o := fun b o q => Heap.get?_push_of_some _ q
  have I3 : Inv X pins σ H2 { s2 with heap := s2.heap.push ob } := I2.kept (t' := s2.toks) old
  obtain ⟨us, hu, pt, sm⟩ := I3.tuple hx
  show wpAny (model X.prog X.w) X.A (subscriptTail e _ (.ref a) (.ref s2.heap.objs.size)) (EP X pins σ Q) X.xe { s2 with heap := s2.heap.push ob }
  refine tail_any (ops := [.ref a, .ref s2.heap.objs.size]) pt.typeIs PyProof.Rows.slot_tuple_getitem.lookup (item_back pt (t := t) (Heap.get?_push_size _ rfl) (by rw [← hu.length]; exact sm) ?_) (by with_unfolding_all rfl)
  exact laidT (s := s2) (h := s2.heap.push ob) (tk := s2.toks) I3 hu.reverse (by rw [List.length_reverse]; exact sm) q
end
def backE (ev es : Rho → Option (D × Rho)) (ρ : Rho) : Option (D × Rho) := match ev ρ with
  | some (.tuple xs, ρ1) => match es ρ1 with
    | some (.int j, ρ2) => if j = -1 then some (.tuple xs.reverse, ρ2) else none
    | _ => none
  | _ => none
theorem pe_backD {X : L2.Cx} {e st : Expr} {p pos : Pos} {ev es : Rho → Option (D × Rho)} (he : PE X e (tD (Cx.G X) ev)) (hs : PE X st (tD (Cx.G X) es)) : PE X (.Subscript e (.Slice none none (some st) p) pos) (tD (Cx.G X) (backE ev es)) := PE.of fun σ H Q q => by
  refine ⟨_, pe_back he hs, ?_⟩
  obtain ⟨ρ, d, ρ', H0, hev, E, q⟩ := q
  unfold backE at hev
  split at hev
  · rename_i xs ρ1 e1
    split at hev
    · rename_i j ρ2 e2
      split at hev
      · rename_i hj
        cases hev
        refine ⟨ρ, _, ρ1, H0, e1, E, fun v H1 H01 T1 E1 r1 => ⟨ρ1, _, _, H01, e2, E1, fun w H2 H02 T2 E2 r2 => ?_⟩⟩
        obtain ⟨a, vs, rfl, g1, g2⟩ := (r1.ex T2.ex).tup
        refine ⟨a, vs, rfl, by rw [r2.int, hj], .inl (ex_rd E2.ex g1), fun b o hb ho => ?_⟩
        have hb0 := E2.ex.back hb
        exact q _ _ _ ((T1.trans T2).trans (Tr.newI hb hb0)) (E2.newI hb) (rep_tupO (.new ho) (g2.reverse.ex (Ex.new hb0)))
      · cases hev
    · cases hev
  · cases hev
end Dv

set_option Elab.async false
set_option linter.all false
set_option maxRecDepth 100000
set_option maxHeartbeats 400000
namespace Dv
open PySem PySem.Spec PyProof.Rows L2 RZ
variable [TabC]

/-! ### [*a, b] -/
section
variable {X : L2.Cx}
def tStar (K : PySem.W.Frag) (te : TE) (ta : TA) : TA := fun σ H Q => te σ H fun x H1 => ∃ b a xs, x = .ref a ∧ SqB b K H1 a xs ∧ ta σ H1 fun ys H2 => Q (xs ++ ys) H2
theorem vals_app : ∀ {xs ys : List V} {us ws : List Value}, Vals xs us → Vals ys ws → Vals (xs ++ ys) (us ++ ws)
  | _, _, _, _, .nil, h => h
  | _, _, _, _, .cons a r, h => .cons a (vals_app r h)
theorem pa_starL {e : Expr} {es : List Expr} {p : Pos} {te : TE} {ta : TA} (he : PE X e te) (ha : PA X es ta) : PA X (.Starred e p :: es) (tStar X.K te ta) := by
  refine ⟨fun pos pins s σ H Q I h => ?_⟩
  refine PySem.W.items_star (thn (he.run pins s σ H _ I h) fun v s1 ⟨x, H1, I1, r1, b, a, xs, ex, hx, q1⟩ => ?_)
  subst ex
  cases r1
  have rest : ∀ (us : List Value), Vals xs us → ∀ h', (∀ c o, s1.heap.get? c = some o → h'.get? c = some o) →
      wpAny (model X.prog X.w) X.A (spliced (backTo pos (starEach es X.env))) (fun vs s3 => AP X pins σ Q (us ++ vs) s3) X.xe { s1 with heap := h' } := fun us hu h' kp =>
    thn (ha.run pos pins { s1 with heap := h' } σ H1 _ (I1.kept (t' := s1.toks) kp) q1) fun ws s3 ⟨ys, H2, I2, r2, q⟩ => ⟨xs ++ ys, H2, I2, vals_app hu r2, q⟩
  unfold PySem.W.StarOf notIterableAtAll
  cases b
  · obtain ⟨us, hu, ⟨o, g1, g2, n, g3⟩, sm⟩ := I1.tuple hx
    have sz : us.toArray.size ≤ sizeLine := by rw [List.size_toArray, ← hu.length]; exact sm
    refine wpAny_bind (wpAny_specialOf (T := "tuple") ⟨o, g1, g2⟩ PySem.F.slot_tuple_iter.lookup (wpAny_pure ⟨rfl, ?_⟩))
    exact wpAny_collect_seq a (.inr rfl) g1 g2 g3 (fun h' kp => by have := rest us hu h' kp; simpa using this) sz
  · obtain ⟨us, hu, ⟨o, n, g1, g2, _, g3⟩, sm⟩ := I1.list hx
    have sz : us.toArray.size ≤ sizeLine := by rw [List.size_toArray, ← hu.length]; exact sm
    refine wpAny_bind (wpAny_specialOf (T := "list") ⟨o, g1, g2⟩ PySem.F.slot_list_iter.lookup (wpAny_pure ⟨rfl, ?_⟩))
    exact wpAny_collect_seq a (.inl rfl) g1 g2 g3 (fun h' kp => by have := rest us hu h' kp; simpa using this) sz
end
def starE2 (ea eb : Rho → Option (D × Rho)) (ρ : Rho) : Option (Sl × Rho) := match ea ρ with
  | some (.list xs, ρ1) => match eb ρ1 with
    | some (d, ρ2) => if xs.length ≤ 1000 then some (.ow (xs ++ [d]), ρ2) else none
    | none => none
  | some (.tuple xs, ρ1) => match eb ρ1 with
    | some (d, ρ2) => if xs.length ≤ 1000 then some (.ow (xs ++ [d]), ρ2) else none
    | none => none
  | _ => none
theorem pe_starS {X : L2.Cx} {a b : Expr} {p pos : Pos} {ea eb : Rho → Option (D × Rho)} (ha : PE X a (tD (Cx.G X) ea)) (hb : PE X b (tD (Cx.G X) eb)) (hst : notStar b = true) : PE X (.List [.Starred a p, b] pos) (tS (Cx.G X) (starE2 ea eb)) := PE.of fun σ H Q q => by
  refine ⟨_, pe_lst (pa_starL ha (pa_cons hb pa_nil (star_of hst))), ?_⟩
  obtain ⟨ρ, s, ρ', H0, hev, E, q⟩ := q
  have fin : ∀ {xs : List D} {d : D} {ρ1 ρ2 : Rho} {H1 H01 H2 H02 : Hp} {vs : List V} {v : V}, Tr ρ σ H0 H ρ1 σ H01 H1 → Tr ρ1 σ H01 H1 ρ2 σ H02 H2 → REnv (Cx.G X) ρ2 σ H02 H2 → Reps (Cx.G X) H02 xs vs → Rep (Cx.G X) H02 d v → xs.length ≤ 1000 → s = .ow (xs ++ [d]) → ρ' = ρ2 →
      (vs ++ [v]).length ≤ sizeLine ∧ ∀ p, H2 p = none → Q (.ref p) (upd H2 p (.lst (vs ++ [v]))) := by
    intro xs d ρ1 ρ2 H1 H01 H2 H02 vs v T1 T2 E2 rs r hl es er
    subst es; subst er
    refine ⟨?_, fun p hp => ?_⟩
    · have := rs.length
      have h1 : (vs ++ [v]).length ≤ 1001 := by rw [List.length_append]; simp; omega
      exact Nat.le_trans h1 (by decide)
    · have TT := T1.trans T2
      obtain ⟨a, ws, e1, h1, h2, h3, h4, h5⟩ := RSl.newO E2 hp (rs.append (Reps.cons r Reps.nil))
      refine q _ _ _ (TT.trans (Tr.newO hp)) (E2.newO hp) ⟨a, ws, e1, h1, h2, h3, h4, ?_⟩
      rcases h5 with z | z
      · exact TT.nw a z
      · exact .inr (TT.kp a z)
  unfold starE2 at hev
  split at hev
  · rename_i xs ρ1 e1
    split at hev
    · rename_i d ρ2 e2
      split at hev
      · rename_i hl
        cases hev
        refine ⟨ρ, _, ρ1, H0, e1, E, fun v H1 H01 T1 E1 r1 => ?_⟩
        obtain ⟨a, vs, rfl, g1, g2⟩ := r1.lst
        refine ⟨true, a, vs, rfl, SqL.of (E1.ex _ _ g1), ρ1, _, _, H01, e2, E1, fun w H2 H02 T2 E2 r2 => ?_⟩
        exact fin T1 T2 E2 (g2.ex T2.ex) r2 hl rfl rfl
      · cases hev
    · cases hev
  · rename_i xs ρ1 e1
    split at hev
    · rename_i d ρ2 e2
      split at hev
      · rename_i hl
        cases hev
        refine ⟨ρ, _, ρ1, H0, e1, E, fun v H1 H01 T1 E1 r1 => ?_⟩
        obtain ⟨a, vs, rfl, g1, g2⟩ := r1.tup
        refine ⟨false, a, vs, rfl, .inl (ex_rd E1.ex g1), ρ1, _, _, H01, e2, E1, fun w H2 H02 T2 E2 r2 => ?_⟩
        exact fin T1 T2 E2 (g2.ex T2.ex) r2 hl rfl rfl
      · cases hev
    · cases hev
  · cases hev
end Dv

set_option Elab.async false
set_option linter.all false
set_option maxRecDepth 100000
set_option maxHeartbeats 4000000
namespace Dv
open PySem L2 RZ
variable [TabC]

/-! ### targets -/
abbrev mAll : Str → Bool := fun _ => true
/-- what an inner block of a comprehension reads may be stored by it -/
def mBlk (scope : Scope) : Str → Bool := fun x => scope.names.lookup x == some .cell
/-- m: a name that inner blocks read may be stored, too (a def's body) -/
def locB (m : Str → Bool) (sc : Scope) (x : Str) : Bool := match sc.names.lookup x with
  | some .local => true | some .cell => m x | _ => false
def tgtsE (f : Expr → D → Rho → Option Rho) : List Expr → List D → Rho → Option Rho
  | [], [], ρ => some ρ
  | e :: es, d :: ds, ρ => match f e d ρ with
    | some ρ1 => tgtsE f es ds ρ1
    | none => none
  | _, _, _ => none
def nameT (C : Cf) (m : Str → Bool) (ok : Nat → Bool) (sc : Scope) (x : Str) (s : Sl) (ρ : Rho) : Option Rho := if locB m sc x then match idx x C.N with
    | some i => if i < ρ.length ∧ ok i = true then some (ρ.set i (some s)) else none
    | none => none
  else none
/-- a[i] = d, a a list of one's own -/
def subT (C : Cf) (sc : Scope) (ev : Rho → Expr → Option (D × Rho)) (x : Str) (ie : Expr) (d : D) (ρ : Rho) : Option Rho := if notSlice ie = false then none else match slotE C sc x with
  | some i => match ρ[i]? with
    | some (some (.ow _)) => match ev ρ ie with
      | some (.int z, ρ1) => match ρ1[i]? with
        | some (some (.ow xs)) => match ixN xs.length z with
          | some j => some (ρ1.set i (some (.ow (xs.set j d))))
          | none => none
        | _ => none
      | _ => none
    | _ => none
  | none => none
def tgtE (C : Cf) (m : Str → Bool) (ok : Nat → Bool) (sc : Scope) (ev : Rho → Expr → Option (D × Rho)) : Nat → Expr → D → Rho → Option Rho
  | 0, _, _, _ => none
  | n + 1, e, d, ρ => match e with
    | .Name x _ => nameT C m ok sc x (.im d) ρ
    | .Tuple es _ _ => match d with
      | .tuple ds => if ds.length = es.length ∧ es.all notStar = true then tgtsE (tgtE C m ok sc ev n) es ds ρ else none
      | _ => none
    | .Subscript (.Name x _) ie _ => subT C sc ev x ie d ρ
    | _ => none
/-- the names that may not be stored keep their values -/
def Kpt (ok : Nat → Bool) (σ σ' : St) : Prop := σ'.length = σ.length ∧ ∀ j, ok j = false → σ'[j]? = σ[j]?
theorem Kpt.refl (ok : Nat → Bool) (σ : St) : Kpt ok σ σ := ⟨rfl, fun _ _ => rfl⟩
theorem Kpt.trans {ok : Nat → Bool} {σ σ1 σ2 : St} (a : Kpt ok σ σ1) (b : Kpt ok σ1 σ2) : Kpt ok σ σ2 := ⟨b.1.trans a.1, fun j h => (b.2 j h).trans (a.2 j h)⟩
def tG (G : Ctx) (ok : Nat → Bool) (f : D → Rho → Option Rho) : TG := fun v σ H Q => ∃ ρ d ρ' H0, f d ρ = some ρ' ∧ REnv G ρ σ H0 H ∧ Rep G H0 d v ∧
  ∀ σ' H' H0', Tr ρ σ H0 H ρ' σ' H0' H' → REnv G ρ' σ' H0' H' → Kpt ok σ σ' → Q σ' H'
def tGs (G : Ctx) (ok : Nat → Bool) (f : List D → Rho → Option Rho) : TGs := fun vs σ H Q => ∃ ρ ds ρ' H0, f ds ρ = some ρ' ∧ REnv G ρ σ H0 H ∧ Reps G H0 ds vs ∧
  ∀ σ' H' H0', Tr ρ σ H0 H ρ' σ' H0' H' → REnv G ρ' σ' H0' H' → Kpt ok σ σ' → Q σ' H'
section
variable {X : L2.Cx} {C : Cf} {m : Str → Bool} {ok : Nat → Bool} {sc : Scope} {k : Nat} {pos : Pos}
theorem PG.of {tg : Expr} {t : TG} (h : ∀ v σ H Q, t v σ H Q → ∃ t' : TG, PG X tg t' ∧ t' v σ H Q) : PG X tg t := ⟨fun pins s σ H v u Q I r q => by
  obtain ⟨t', h1, h2⟩ := h v σ H Q q
  exact h1.run pins s σ H v u Q I r h2⟩
theorem PGs.of {tg : List Expr} {t : TGs} (h : ∀ v σ H Q, t v σ H Q → ∃ t' : TGs, PGs X tg t' ∧ t' v σ H Q) : PGs X tg t := ⟨fun pins s σ H v u Q I r q => by
  obtain ⟨t', h1, h2⟩ := h v σ H Q q
  exact h1.run pins s σ H v u Q I r h2⟩
theorem assignEach_len {env : Env} : ∀ es : List Expr, (assignEach es env).length = es.length
  | [] => by rfl
  | e :: es => by
    have ih := assignEach_len (env := env) es
    cases e <;> (simp only [assignEach, List.length_cons]; rw [ih])
theorem assignEach_star {env : Env} : ∀ {es : List Expr}, es.all notStar = true → (assignEach es env).findIdx? (·.1) = none
  | [], _ => by rfl
  | e :: es, h => by
    simp only [List.all_cons, Bool.and_eq_true] at h
    have ih := assignEach_star (env := env) h.2
    cases e <;> first | (exfalso; simp [notStar] at h; done) | (simp only [assignEach, List.findIdx?_cons]; simp [ih])
theorem assignEach_cons {env : Env} {e : Expr} {es : List Expr} (h : notStar e = true) : (assignEach (e :: es) env).map (·.2) = assign e env :: (assignEach es env).map (·.2) := by
  cases e <;> first | rfl | (simp [notStar] at h)
theorem nameT_run {G : Ctx} {x : Str} {s : Sl} {ρ ρ' ρa : Rho} {σ : St} {H0 H H0' H' : Hp} {v : V} (h : nameT C m ok sc x s ρa = some ρ') (E : REnv G ρa σ H0' H') (T : Tr ρ σ H0 H ρa σ H0' H') (r : RSl G ρ σ H ρa H0' H' s v) :
    ∃ i, C.N[i]? = some x ∧ locB m sc x = true ∧ REnv G ρ' (σ.set i (some v)) H0' H' ∧ Tr ρ σ H0 H ρ' (σ.set i (some v)) H0' H' ∧ Kpt ok σ (σ.set i (some v)) := by
  unfold nameT at h
  split at h
  · rename_i hl
    split at h
    · rename_i i hi
      split at h
      · rename_i hlen
        cases h
        obtain ⟨e1, e2⟩ := E.store T hlen.1 r
        refine ⟨i, idx_get hi, hl, e1, e2, by simp, fun j hj => ?_⟩
        have : i ≠ j := fun z => by rw [z, hj] at hlen; exact Bool.noConfusion hlen.2
        rw [List.getElem?_set_ne this]
      · cases h
    · cases h
  · cases h
theorem loc_of (K : COkB C sc X) (hm : ∀ x, m x = true → X.fn x = true) {x : Str} (h : locB m sc x = true) : Loc X.env.scope x ∧ (X.fn x = true ∨ X.env.scope.names.lookup x = some .local) := by
  unfold locB at h
  rw [K.sc]
  split at h
  · rename_i e; exact ⟨.inl e, .inr e⟩
  · rename_i e; exact ⟨.inr e, .inl (hm x h)⟩
  · cases h
theorem set_ixN {n : Nat} {z : Int} {j : Nat} (h : ixN n z = some j) : j < n := (ixN_seq h).2.1
theorem pg_tgt (K : COk C sc k X) (hm : ∀ x, m x = true → X.fn x = true) {ev : Rho → Expr → Option (D × Rho)} (hev : ∀ e, PE X e (tD (Cx.G X) fun ρ => ev ρ e)) : ∀ (n : Nat) (tg : Expr), PG X tg (tG (Cx.G X) ok (tgtE C m ok sc ev n tg))
  | 0, tg => PG.of fun v σ H Q q => by
    obtain ⟨ρ, d, ρ', H0, h, _⟩ := q
    cases h
  | n + 1, tg => PG.of fun v σ H Q q => by
    have ih := pg_tgt K hm hev n
    obtain ⟨ρ, d, ρ', H0, h, E, r, q⟩ := q
    unfold tgtE at h
    split at h
    · rename_i x px
      obtain ⟨i, h1, h2, h3, h4, h5⟩ := nameT_run (G := Cx.G X) (v := v) h E (Tr.refl _ _ _ _) (rsl_im r)
      obtain ⟨l1, l2⟩ := loc_of K.toCOkB hm h2
      exact ⟨_, pg_name (by rw [K.N]; exact K.nd) (by rw [K.N]; exact h1) l1 l2, q _ H H0 h4 h3 h5⟩
    · rename_i es kk pt
      split at h
      · rename_i ds
        split at h
        · rename_i hl
          have hgs : ∀ es : List Expr, es.all notStar = true → PGs X es (tGs (Cx.G X) ok (tgtsE (tgtE C m ok sc ev n) es)) := by
            intro es
            induction es with
            | nil =>
              intro _
              refine PGs.of fun vs σ H Q q => ⟨_, pgs_nil, ?_⟩
              obtain ⟨ρ, ds, ρ', H0, h, E, r, q⟩ := q
              cases ds with
              | nil => cases h; simp only [Reps] at r; exact ⟨r, q _ _ _ (Tr.refl _ _ _ _) E (Kpt.refl _ _)⟩
              | cons d ds => cases h
            | cons e es ihe =>
              intro hst
              simp only [List.all_cons, Bool.and_eq_true] at hst
              refine PGs.of fun vs σ H Q q => ⟨_, pgs_cons (ih e) (ihe hst.2) (assignEach_cons hst.1), ?_⟩
              obtain ⟨ρ, ds, ρ', H0, h, E, r, q⟩ := q
              cases ds with
              | nil => cases h
              | cons d ds =>
                simp only [tgtsE] at h
                split at h
                · rename_i ρ1 h1
                  simp only [Reps] at r
                  obtain ⟨w, ws, rfl, r1, r2⟩ := r
                  refine ⟨w, ws, rfl, ρ, d, ρ1, H0, h1, E, r1, fun σ1 H1 H01 T1 E1 k1 => ?_⟩
                  exact ⟨ρ1, ds, ρ', H01, h, E1, r2.ex T1.ex, fun σ2 H2 H02 T2 E2 k2 => q _ _ _ (T1.trans T2) E2 (k1.trans k2)⟩
                · cases h
          obtain ⟨a, vs, rfl, e1, e2⟩ := r.tup
          refine ⟨_, pg_tup (n := es.length) K.calm (hgs es hl.2) (assignEach_len es) (assignEach_star hl.2), ?_⟩
          exact ⟨a, vs, rfl, (.inl (ex_rd E.ex e1)), by rw [← e2.length]; exact hl.1, ρ, ds, ρ', H0, h, E, e2, q⟩
        · cases h
      · cases h
    · rename_i x px ie ps
      unfold subT at h
      split at h
      · cases h
      rename_i hns
      have hass : ∀ v, assign (.Subscript (.Name x px) ie ps) X.env v = (do
          let ov ← holding [v] (eval (.Name x px) X.env)
          let iv ← holding [v, ov] (eval ie X.env)
          standAt ps
          holding [v, ov, iv] (setItem ov iv v)
          release [v, ov, iv] []) := by
        intro v
        cases ie <;> first | rfl | (exfalso; exact hns rfl)
      split at h
      · rename_i i hi
        split at h
        · rename_i xs0 hx0
          split at h
          · rename_i z ρ1 h1
            split at h
            · rename_i xs hx
              split at h
              · rename_i j hj
                cases h
                refine ⟨_, pg_sub (slot_pe K.toCOkB hi) (hev ie) set_list hass, ?_⟩
                obtain ⟨a0, vs0, e0, _⟩ := E.ow i xs0 hx0
                refine ⟨_, e0, ρ, _, _, H0, h1, E, fun w H1 H01 T1 E1 r1 => ?_⟩
                obtain ⟨a1, vs1, e1, e2, e3, e4⟩ := E1.ow i xs hx
                rw [e0] at e1; cases e1
                refine ⟨a0, vs1, z, j, rfl, r1.int, e2, by rw [← e4.length]; exact hj, ?_⟩
                obtain ⟨w1, w2⟩ := E1.write hx e0 (Reps.set (r.ex T1.ex) j e4)
                exact q _ _ _ (T1.trans w2) w1 (Kpt.refl _ _)
              · cases h
            · cases h
          · cases h
        · cases h
      · cases h
    · cases h
end
end Dv

set_option Elab.async false
set_option linter.all false
set_option maxRecDepth 100000
set_option maxHeartbeats 4000000
namespace Dv
open PySem L2 RZ
variable [TabC]

def wipeR (ρ : Rho) : List Nat → Rho
  | [] => ρ
  | v :: vs => (wipeR ρ vs).set v none
/-- the slots at vs as they stood in ρ1, the others as in ρ -/
def mixR (ρ1 ρ : Rho) : List Nat → Rho
  | [] => ρ
  | v :: vs => (mixR ρ1 ρ vs).set v ((ρ1[v]?).join)
theorem wipeR_len (ρ : Rho) : ∀ vs, (wipeR ρ vs).length = ρ.length
  | [] => rfl
  | v :: vs => by unfold wipeR; rw [List.length_set, wipeR_len ρ vs]
theorem wipeR_some {ρ : Rho} {i : Nat} {x : Sl} : ∀ {vs : List Nat}, (wipeR ρ vs)[i]? = some (some x) → ρ[i]? = some (some x) ∧ i ∉ vs
  | [], h => ⟨h, by simp⟩
  | v :: vs, h => by
    unfold wipeR at h
    by_cases hi : v = i
    · subst hi
      by_cases hv : v < (wipeR ρ vs).length
      · rw [List.getElem?_set_self hv] at h; cases h
      · rw [List.getElem?_eq_none (by simpa using hv)] at h; cases h
    · rw [List.getElem?_set_ne hi] at h
      obtain ⟨h1, h2⟩ := wipeR_some h
      exact ⟨h1, by simp only [List.mem_cons, not_or]; exact ⟨fun e => hi e.symm, h2⟩⟩
theorem wipe_get {σ : St} {i : Nat} : ∀ {vs : List Nat}, i ∉ vs → (wipe σ vs)[i]? = σ[i]?
  | [], _ => rfl
  | v :: vs, h => by
    simp only [List.mem_cons, not_or] at h
    unfold wipe
    rw [List.getElem?_set_ne (Ne.symm h.1), wipe_get h.2]
theorem mixR_len (ρ1 ρ : Rho) : ∀ vs, (mixR ρ1 ρ vs).length = ρ.length
  | [] => rfl
  | v :: vs => by unfold mixR; rw [List.length_set, mixR_len ρ1 ρ vs]
theorem mixR_out {ρ1 ρ : Rho} {i : Nat} : ∀ {vs : List Nat}, i ∉ vs → (mixR ρ1 ρ vs)[i]? = ρ[i]?
  | [], _ => rfl
  | v :: vs, h => by
    simp only [List.mem_cons, not_or] at h
    unfold mixR
    rw [List.getElem?_set_ne (Ne.symm h.1), mixR_out h.2]
theorem mixR_in {ρ1 ρ : Rho} {i : Nat} {s : Sl} : ∀ {vs : List Nat}, i ∈ vs → (mixR ρ1 ρ vs)[i]? = some (some s) → ρ1[i]? = some (some s)
  | [], h, _ => by cases h
  | v :: vs, h, e => by
    unfold mixR at e
    by_cases hi : v = i
    · subst hi
      by_cases hv : v < (mixR ρ1 ρ vs).length
      · rw [List.getElem?_set_self hv] at e
        cases q : ρ1[v]? with
        | none => rw [q] at e; cases e
        | some o =>
          rw [q] at e
          simp only [Option.join_some, Option.some.injEq] at e
          rw [e]
      · rw [List.getElem?_eq_none (by simpa using hv)] at e; cases e
    · rw [List.getElem?_set_ne hi] at e
      rcases List.mem_cons.mp h with z | z
      · exact absurd z.symm hi
      · exact mixR_in z e
section
variable {G : Ctx} {ρ ρ1 ρ' : Rho} {σ σ' : St} {H0 H H01 H1 H0' H' : Hp} {vs : List Nat}
theorem REnv.wipe (E : REnv G ρ σ H0 H) (vs : List Nat) : REnv G (wipeR ρ vs) (L2.wipe σ vs) H0 H := by
  refine ⟨E.tb, E.ex, by rw [wipeR_len, wipe_length, E.len], fun i d e => ?_, fun i d e => ?_, fun i d e => ?_, fun i d e => ?_, fun i d e => ?_, fun i j xs ys a e1 e2 e3 e4 => ?_⟩
  · obtain ⟨h1, h2⟩ := wipeR_some e
    rw [wipe_get h2]; exact E.im i d h1
  · obtain ⟨h1, h2⟩ := wipeR_some e
    rw [wipe_get h2]; exact E.fn i d h1
  · obtain ⟨h1, h2⟩ := wipeR_some e
    rw [wipe_get h2]; exact E.fz i d h1
  · obtain ⟨h1, h2⟩ := wipeR_some e
    rw [wipe_get h2]; exact E.tt i d h1
  · obtain ⟨h1, h2⟩ := wipeR_some e
    rw [wipe_get h2]; exact E.ow i d h1
  · obtain ⟨h1, h2⟩ := wipeR_some e1
    obtain ⟨h3, h4⟩ := wipeR_some e2
    rw [wipe_get h2] at e3
    rw [wipe_get h4] at e4
    exact E.ap i j xs ys a h1 h3 e3 e4
theorem own_wipe {a : Addr} (h : Own (wipeR ρ vs) (L2.wipe σ vs) a) : Own ρ σ a := by
  obtain ⟨i, xs, e1, e2⟩ := h
  obtain ⟨h1, h2⟩ := wipeR_some e1
  rw [wipe_get h2] at e2
  exact ⟨i, xs, h1, e2⟩
theorem Tr.wipeR (T : Tr ρ σ H0 H ρ' σ' H0' H') (vs : List Nat) : Tr ρ σ H0 H (wipeR ρ' vs) (L2.wipe σ' vs) H0' H' :=
  ⟨T.ex, T.fr', fun a h => T.nw a (own_wipe h), T.kp⟩
theorem wipe_of_kpt {ok : Nat → Bool} (hk : Kpt ok (L2.wipe σ vs) σ') (hv : ∀ i, i ∉ vs → ok i = false) : L2.wipe σ' vs = L2.wipe σ vs := by
  have key : ∀ (s : St) (j : Nat), (L2.wipe s vs)[j]? = if j ∈ vs then (if j < s.length then some none else none) else s[j]? := by
    intro s j
    by_cases hj : j ∈ vs
    · rw [if_pos hj]
      clear hk hv
      induction vs with
      | nil => cases hj
      | cons v vs ih =>
        unfold L2.wipe
        by_cases e : v = j
        · subst e
          by_cases hl : v < s.length
          · rw [if_pos hl, List.getElem?_set_self (by rw [wipe_length]; exact hl)]
          · rw [if_neg hl, List.getElem?_eq_none (by rw [List.length_set, wipe_length]; omega)]
        · rw [List.getElem?_set_ne e]
          rcases List.mem_cons.mp hj with z | z
          · exact absurd z.symm e
          · exact ih z
    · rw [if_neg hj, wipe_get hj]
  apply List.ext_getElem?
  intro j
  rw [key σ', key σ]
  have hl : σ'.length = σ.length := by rw [hk.1, wipe_length]
  by_cases hj : j ∈ vs
  · rw [if_pos hj, if_pos hj, hl]
  · rw [if_neg hj, if_neg hj, hk.2 j (hv j hj), wipe_get hj]
/-- a list that is nobody's is changed -/
theorem REnv.updD (E : REnv G ρ σ H0 H) {p : Addr} {vs ws : List V} (hp : H p = some (.lst vs)) (h0 : H0 p = none) (no : ¬ Own ρ σ p) : REnv G ρ σ H0 (upd H p (.lst ws)) := by
  refine ⟨E.tb.lst hp, fun a u e => ?_, E.len, E.im, E.fn, E.fz, E.tt, fun i xs e => ?_, E.ap⟩
  · have hp : a ≠ p := fun z => by rw [z, h0] at e; cases e
    rw [upd_ne hp]; exact E.ex _ _ e
  · obtain ⟨a, vs, h1, h2, h3, h4⟩ := E.ow i xs e
    have hp : a ≠ p := fun z => no ⟨i, xs, e, by rw [← z]; exact h1⟩
    exact ⟨a, vs, h1, by rw [upd_ne hp]; exact h2, h3, h4⟩
end

def ownOf (N : List Str) (scope : Scope) : List (Str × Nat) := scope.names.filterMap fun p => match p.2 with
  | .local => (idx p.1 N).map fun i => (p.1, i)
  | .cell => (idx p.1 N).map fun i => (p.1, i)
  | _ => none
def noOwn (ρ : Rho) (vs : List Nat) : Bool := vs.all fun i => match ρ[i]? with
  | some (some (.ow _)) => false
  | _ => true
/-- the turns of a comprehension: f stores the item, t tests, g gives the element -/
def loopE (vs : List Nat) (f : D → Rho → Option Rho) (t : Rho → Option (Bool × Rho)) (g : Rho → Option (D × Rho)) : List D → Rho → List D → Option (List D × Rho)
  | [], ρ, acc => some (acc, ρ)
  | d :: ds, ρ, acc => match f d ρ with
    | some ρ1 => match t ρ1 with
      | some (true, ρ2) => match g ρ2 with
        | some (e, ρ3) => if acc.length ≤ sline then loopE vs f t g ds (wipeR ρ3 vs) (acc ++ [e]) else none
        | none => none
      | some (false, ρ2) => loopE vs f t g ds (wipeR ρ2 vs) acc
      | none => none
    | none => none
def ifsE (et : Rho → Expr → Option (Bool × Rho)) : List Expr → Rho → Option (Bool × Rho)
  | [], ρ => some (true, ρ)
  | [c], ρ => et ρ c
  | _, _ => none
/-- no place with an evaluator of its own in a comprehension -/
def offB (C : Cf) (scope sc : Scope) : Bool := !C.tt.on (relS scope sc)
def compE (C : Cf) (sc scope : Scope) (evO : Rho → Expr → Option (D × Rho)) (evI : Rho → Expr → Option (D × Rho)) (etI : Rho → Expr → Option (Bool × Rho)) (elt tg iter : Expr) (ifs : List Expr) (ρ : Rho) : Option (Sl × Rho) :=
  let own := ownOf C.N scope
  let vs := own.map (·.2)
  if blkC C.N sc scope own && (notSet iter && offB C scope sc) && decide (ifs.length ≤ 1) then
    match itE sc evO tg iter ρ with
    | some (its, ρ1) => if noOwn ρ1 vs then
        match loopE vs (tgtE C (mBlk scope) (fun i => vs.contains i) (relS scope sc) evI 8 tg) (ifsE etI ifs) (fun ρ => evI ρ elt) its (wipeR ρ1 vs) [] with
        | some (acc, ρ2) => some (.ow acc, mixR ρ1 ρ2 vs)
        | none => none
      else none
    | none => none
  else none
section
variable {X : L2.Cx} {C : Cf} {sc : Scope} {k : Nat} {pos : Pos}
theorem COk.blk (K : COk C sc k X) {scope : Scope} (hoff : offB C scope sc = true) (s : Shared) (H : Hp) (cl : List (Str × Addr)) (c : Addr) (fp : List Addr) : COk C (relS scope sc) k (X.blk s H scope (compEnvC scope cl c X.env) fp) := by
  have hs : (compEnvC scope cl c X.env).scope = relS scope sc := by
    rw [← K.sc]; rfl
  have hno : C.tt.on (relS scope sc) = false := by
    unfold offB at hoff
    simpa using hoff
  exact ⟨⟨K.N, K.nd, hs, K.gl⟩, (fun h _ z => by rw [hno] at z; cases z), K.rp, K.calm, K.room, fun x fn hx => ⟨(K.fns x fn hx).ex⟩, K.blt, K.isi, K.tys⟩
theorem PTs.of {e : List Expr} {t : TT} (h : ∀ σ H Q, t σ H Q → ∃ t' : TT, PTs X e t' ∧ t' σ H Q) : PTs X e t := ⟨fun pins s σ H Q I q => by
  obtain ⟨t', h1, h2⟩ := h σ H Q q
  exact h1.run pins s σ H Q I h2⟩
theorem pts_ifs {et : Rho → Expr → Option (Bool × Rho)} (h : ∀ e, PT X e (tT (Cx.G X) fun ρ => et ρ e)) (ifs : List Expr) : PTs X ifs (tT (Cx.G X) (ifsE et ifs)) := PTs.of fun σ H Q q => by
  obtain ⟨ρ, b, ρ', H0, hev, E, q⟩ := q
  match ifs, hev with
  | [], hev =>
    cases hev
    exact ⟨_, pts_nil, q H H0 (Tr.refl _ _ _ _) E⟩
  | [c], hev => exact ⟨_, pts_one (h c), ρ, b, ρ', H0, hev, E, q⟩
theorem noOwn_of {ρ : Rho} {vs : List Nat} (h : noOwn ρ vs = true) {i : Nat} (hi : i ∈ vs) {xs : List D} (e : ρ[i]? = some (some (.ow xs))) : False := by
  unfold noOwn at h
  rw [List.all_eq_true] at h
  have := h i hi
  rw [e] at this
  cases this
theorem comp_core (K : COk C sc k X) {scope : Scope} {evO evI : Rho → Expr → Option (D × Rho)} {etI : Rho → Expr → Option (Bool × Rho)} {elt tg iter : Expr} {ifs : List Expr}
    (hO : ∀ e, PE X e (tD (Cx.G X) fun ρ => evO ρ e))
    (hI : ∀ (X' : L2.Cx), COk C (relS scope sc) k X' → Cx.G X' = Cx.G X → ∀ e, PE X' e (tD (Cx.G X) fun ρ => evI ρ e))
    (hT : ∀ (X' : L2.Cx), COk C (relS scope sc) k X' → Cx.G X' = Cx.G X → ∀ e, PT X' e (tT (Cx.G X) fun ρ => etI ρ e)) {σ : St} {H : Hp} {Q : VK} (q : tS (Cx.G X) (compE C sc scope evO evI etI elt tg iter ifs) σ H Q) :
    ∃ (own : List (Str × Nat)) (wi : TI) (g : TG) (tt : TT) (te : TE), PI X tg iter wi ∧ BlkOk X.N X.env.scope scope own ∧
      (∀ (s : Shared) (H : Hp) (c : Addr) (cl : List (Str × Addr)) (fp : List Addr), PG (X.blk s H scope (compEnvC scope cl c X.env) fp) tg g) ∧
      (∀ (s : Shared) (H : Hp) (c : Addr) (cl : List (Str × Addr)) (fp : List Addr), PTs (X.blk s H scope (compEnvC scope cl c X.env) fp) ifs tt) ∧
      (∀ (s : Shared) (H : Hp) (c : Addr) (cl : List (Str × Addr)) (fp : List Addr), PE (X.blk s H scope (compEnvC scope cl c X.env) fp) elt te) ∧ notSet iter = true ∧
      tLc wi g tt te (own.map (·.2)) σ H Q := by
  obtain ⟨ρ, s, ρ', H0, hev, E, q⟩ := q
  unfold compE at hev
  dsimp only at hev
  split at hev
  · rename_i hb
    simp only [Bool.and_eq_true, decide_eq_true_eq] at hb
    obtain ⟨⟨hblk, hns, hoff⟩, hifs⟩ := hb
    split at hev
    · rename_i its ρ1 h1
      split at hev
      · rename_i hno
        split at hev
        · rename_i accF ρF hF
          cases hev
          generalize hown : ownOf C.N scope = own at *
          refine ⟨own, tI (Cx.G X) (itE sc evO tg iter), tG (Cx.G X) (fun i => (own.map (·.2)).contains i) (tgtE C (mBlk scope) (fun i => (own.map (·.2)).contains i) (relS scope sc) evI 8 tg),
            tT (Cx.G X) (ifsE etI ifs), tD (Cx.G X) fun ρ => evI ρ elt, pi_src K hO tg iter, blkOk_by (by rw [K.N, K.sc]; exact hblk),
            fun s H c cl fp => pg_tgt (X := X.blk s H scope (compEnvC scope cl c X.env) fp) (m := mBlk scope) (ok := fun i => (own.map (·.2)).contains i) (K.blk hoff s H cl c fp) (fun x z => z) (hI _ (K.blk hoff s H cl c fp) rfl) 8 tg,
            fun s H c cl fp => pts_ifs (X := X.blk s H scope (compEnvC scope cl c X.env) fp) (hT _ (K.blk hoff s H cl c fp) rfl) ifs,
            fun s H c cl fp => hI (X.blk s H scope (compEnvC scope cl c X.env) fp) (K.blk hoff s H cl c fp) rfl elt, hns, ?_⟩
          generalize hvs : own.map (·.2) = vs at *
          refine ⟨ρ, its, ρ1, H0, h1, E, fun J H1 H01 T1 E1 IO D hD => ?_⟩
          have hD0 : H01 D = none := E1.ex.back hD
          have noD : ¬ Own ρ1 σ D := fun o => by
            obtain ⟨us, z, _⟩ := own_tracked E1 o
            rw [hD] at z; cases z
          refine ⟨fun i m H' => m = its.length - i ∧ ∃ ρi acc H0i avs, i ≤ its.length ∧
            loopE vs (tgtE C (mBlk scope) (fun i => vs.contains i) (relS scope sc) evI 8 tg) (ifsE etI ifs) (fun ρ => evI ρ elt) (its.drop i) ρi acc = some (accF, ρF) ∧
            REnv (Cx.G X) ρi (L2.wipe σ vs) H0i H' ∧ Tr (wipeR ρ1 vs) (L2.wipe σ vs) H01 H1 ρi (L2.wipe σ vs) H0i H' ∧ H' D = some (.lst avs) ∧ H0i D = none ∧ ¬ Own ρi (L2.wipe σ vs) D ∧ Reps (Cx.G X) H0i acc avs, ⟨its.length, ?_⟩, ?_⟩
          · refine ⟨by simp, wipeR ρ1 vs, [], H01, [], Nat.zero_le _, by simpa using hF, (E1.wipe vs).newO hD, Tr.newO hD, upd_same, hD0, fun o => noD (own_wipe o), Reps.nil⟩
          · rintro i m H' ⟨rfl, ρi, acc, H0i, avs, hi, hl, Ei, Ti, hDi, hD0i, noi, ri⟩
            by_cases hlt : i < its.length
            · refine .inr ⟨IO.go i H' (Ti.ex.trans Ei.ex) hlt, fun H2 => ∃ ρi acc H0i avs, i + 1 ≤ its.length ∧
                loopE vs (tgtE C (mBlk scope) (fun i => vs.contains i) (relS scope sc) evI 8 tg) (ifsE etI ifs) (fun ρ => evI ρ elt) (its.drop (i + 1)) ρi acc = some (accF, ρF) ∧
                REnv (Cx.G X) ρi (L2.wipe σ vs) H0i H2 ∧ Tr (wipeR ρ1 vs) (L2.wipe σ vs) H01 H1 ρi (L2.wipe σ vs) H0i H2 ∧ H2 D = some (.lst avs) ∧ H0i D = none ∧ ¬ Own ρi (L2.wipe σ vs) D ∧ Reps (Cx.G X) H0i acc avs, fun H2 h => ⟨its.length - (i + 1), by omega, rfl, h⟩, fun x H2 hy => ?_⟩
              obtain ⟨d, hd, hx⟩ := IO.yld i H' x H2 (Ti.ex.trans Ei.ex) hlt hy
              have hdrop : its.drop i = d :: its.drop (i + 1) := by
                have := List.drop_eq_getElem_cons hlt
                rw [this]
                congr 1
                have z := List.getElem?_eq_getElem hlt
                rw [hd] at z
                exact (Option.some.inj z).symm
              rw [hdrop] at hl
              simp only [loopE] at hl
              -- the state with the item in hand
              have base : ∃ H02, REnv (Cx.G X) ρi (L2.wipe σ vs) H02 H2 ∧ Tr ρi (L2.wipe σ vs) H0i H' ρi (L2.wipe σ vs) H02 H2 ∧ Rep (Cx.G X) H02 d x ∧ H2 D = some (.lst avs) ∧ H02 D = none := by
                rcases hx with ⟨rfl, hr⟩ | ⟨p, po, pv, hp, rfl, hr⟩
                · exact ⟨H0i, Ei, Tr.refl _ _ _ _, hr.ex Ti.ex, hDi, hD0i⟩
                · have hp0 := Ei.ex.back hp
                  have hDp : D ≠ p := ne_of_none hDi hp
                  refine ⟨_, Ei.newI hp, Tr.newI hp hp0, hr.ex (fun a o e => ?_), by rw [upd_ne hDp]; exact hDi, by rw [upd_ne hDp]; exact hD0i⟩
                  by_cases ha : a = p
                  · subst ha; rw [upd_same] at e ⊢; exact e
                  · rw [upd_ne ha] at e ⊢; exact Ti.ex _ _ e
              obtain ⟨H02, E2, T2, r2, hD2, hD02⟩ := base
              split at hl
              · rename_i ρa hf
                refine ⟨ρi, d, ρa, H02, hf, E2, r2, fun σ3 H3 H03 T3 E3 k3 => ?_⟩
                refine ⟨wipe_of_kpt k3 (fun j hj => by simpa using hj), ?_⟩
                obtain ⟨hD3, hD03⟩ := T3.fr D _ hD2 hD02 noi
                have no3 : ¬ Own ρa σ3 D := fun o => by
                  rcases T3.nw D o with z | z
                  · exact noi z
                  · exact z.not hD2
                have T13 := (Ti.trans T2).trans T3
                have wk : L2.wipe σ3 vs = L2.wipe σ vs := wipe_of_kpt k3 (fun j hj => by simpa using hj)
                split at hl
                · rename_i ρb ht
                  refine ⟨ρa, true, ρb, H03, ht, E3, fun H4 H04 T4 E4 => ?_⟩
                  dsimp only
                  rw [if_pos rfl]
                  obtain ⟨hD4, hD04⟩ := T4.fr D _ hD3 hD03 no3
                  have no4 : ¬ Own ρb σ3 D := fun o => by
                    rcases T4.nw D o with z | z
                    · exact no3 z
                    · exact z.not hD3
                  split at hl
                  · rename_i e ρc hg
                    split at hl
                    · rename_i hsz
                      refine ⟨ρb, e, ρc, H04, hg, E4, fun y H5 H05 T5 E5 r5 => ?_⟩
                      obtain ⟨hD5, hD05⟩ := T5.fr D _ hD4 hD04 no4
                      have no5 : ¬ Own ρc σ3 D := fun o => by
                        rcases T5.nw D o with z | z
                        · exact no4 z
                        · exact z.not hD4
                      have len : acc.length = avs.length := ri.length
                      refine ⟨avs, hD5, by rw [← len]; exact sline_lt hsz, wipeR ρc vs, acc ++ [e], H05, avs ++ [y], hlt, hl, ?_, ?_, upd_same, hD05, fun o => no5 ?_, ?_⟩
                      · rw [← wk]; exact (E5.updD hD5 hD05 no5).wipe vs
                      · have TT := ((T13.trans T4).trans T5)
                        have TT2 := TT.wipeR vs
                        rw [wk] at TT2
                        refine ⟨TT2.ex, fun a o h nt n no => ?_, TT2.nw, fun a h => ?_⟩
                        · have ha : a ≠ D := fun z => by rw [z, hD] at h; cases h
                          rw [upd_ne ha]; exact TT2.fr' a o h nt n no
                        · by_cases ha : a = D
                          · subst ha; exact nn hD
                          · exact TT2.kp a fun u e => h u (by rw [upd_ne ha]; exact e)
                      · rw [← wk] at o; exact own_wipe o
                      · have rr : Reps (Cx.G X) H05 acc avs := ri.ex (((T2.ex.trans T3.ex).trans T4.ex).trans T5.ex)
                        exact rr.append (Reps.cons r5 Reps.nil)
                    · cases hl
                  · cases hl
                · rename_i ρb ht
                  refine ⟨ρa, false, ρb, H03, ht, E3, fun H4 H04 T4 E4 => ?_⟩
                  dsimp only
                  rw [if_neg Bool.false_ne_true]
                  obtain ⟨hD4, hD04⟩ := T4.fr D _ hD3 hD03 no3
                  have no4 : ¬ Own ρb σ3 D := fun o => by
                    rcases T4.nw D o with z | z
                    · exact no3 z
                    · exact z.not hD3
                  refine ⟨wipeR ρb vs, acc, H04, avs, hlt, hl, ?_, ?_, hD4, hD04, fun o => no4 ?_, ri.ex ((T2.ex.trans T3.ex).trans T4.ex)⟩
                  · rw [← wk]; exact E4.wipe vs
                  · have TT2 := (T13.trans T4).wipeR vs
                    rw [wk] at TT2
                    exact TT2
                  · rw [← wk] at o; exact own_wipe o
                · cases hl
              · cases hl
            · refine .inl ⟨IO.stop i H' (Ti.ex.trans Ei.ex) (by omega), ?_⟩
              have hdrop : its.drop i = [] := List.drop_eq_nil_of_le (by omega)
              rw [hdrop] at hl
              simp only [loopE, Option.some.injEq, Prod.mk.injEq] at hl
              obtain ⟨rfl, rfl⟩ := hl
              have T' : Tr ρ1 σ H01 H1 (mixR ρ1 ρi vs) σ H0i H' := by
                refine ⟨Ti.ex, fun a o h nt n no => Ti.fr' a o h nt n (fun z => no (own_wipe z)), fun a ⟨j, xs, e1, e2⟩ => ?_, Ti.kp⟩
                by_cases hj : j ∈ vs
                · exact (noOwn_of hno hj (mixR_in hj e1)).elim
                · rw [mixR_out hj] at e1
                  rcases Ti.nw a ⟨j, xs, e1, by rw [wipe_get hj]; exact e2⟩ with z | z
                  · exact .inl (own_wipe z)
                  · exact .inr z
              refine q _ H' H0i (T1.trans T') ?_ ⟨D, avs, rfl, hDi, hD0i, ri, fun ⟨j, xs, e1, e2⟩ => ?_, ?_⟩
              · refine ⟨Ei.tb, Ei.ex, by rw [mixR_len, Ei.len, wipe_length], fun j d e => ?_, fun j d e => ?_, fun j d e => ?_, fun j d e => ?_, fun j d e => ?_, fun j l xs ys a e1 e2 e3 e4 => ?_⟩
                · by_cases hj : j ∈ vs
                  · obtain ⟨v, h2, h3⟩ := E1.im j d (mixR_in hj e)
                    exact ⟨v, h2, h3.ex Ti.ex⟩
                  · rw [mixR_out hj] at e
                    obtain ⟨v, h2, h3⟩ := Ei.im j d e
                    rw [wipe_get hj] at h2
                    exact ⟨v, h2, h3⟩
                · by_cases hj : j ∈ vs
                  · exact E1.fn j d (mixR_in hj e)
                  · rw [mixR_out hj] at e
                    have := Ei.fn j d e
                    rw [wipe_get hj] at this
                    exact this
                · by_cases hj : j ∈ vs
                  · exact (E1.fz j d (mixR_in hj e)).imp fun a h => ⟨h.1, ex_l Ti.ex h.2⟩
                  · rw [mixR_out hj] at e
                    have := Ei.fz j d e
                    rw [wipe_get hj] at this
                    exact this
                · by_cases hj : j ∈ vs
                  · exact (E1.tt j d (mixR_in hj e)).imp fun a h => ⟨h.1, h.2.ex Ti.ex⟩
                  · rw [mixR_out hj] at e
                    have := Ei.tt j d e
                    rw [wipe_get hj] at this
                    exact this
                · by_cases hj : j ∈ vs
                  · exact (noOwn_of hno hj (mixR_in hj e)).elim
                  · rw [mixR_out hj] at e
                    have := Ei.ow j d e
                    rw [wipe_get hj] at this
                    exact this
                · by_cases hj : j ∈ vs
                  · exact (noOwn_of hno hj (mixR_in hj e1)).elim
                  · by_cases hl : l ∈ vs
                    · exact (noOwn_of hno hl (mixR_in hl e2)).elim
                    · rw [mixR_out hj] at e1
                      rw [mixR_out hl] at e2
                      exact Ei.ap j l xs ys a e1 e2 (by rw [wipe_get hj]; exact e3) (by rw [wipe_get hl]; exact e4)
              · by_cases hj : j ∈ vs
                · exact noOwn_of hno hj (mixR_in hj e1)
                · rw [mixR_out hj] at e1
                  exact noi ⟨j, xs, e1, by rw [wipe_get hj]; exact e2⟩
              · exact .inr (T1.kp D (nn hD))
        · cases hev
      · cases hev
    · cases hev
  · cases hev
theorem pe_compS (K : COk C sc k X) {scope : Scope} {evO evI : Rho → Expr → Option (D × Rho)} {etI : Rho → Expr → Option (Bool × Rho)} {elt tg iter : Expr} {ifs : List Expr}
    (hO : ∀ e, PE X e (tD (Cx.G X) fun ρ => evO ρ e))
    (hI : ∀ (X' : L2.Cx), COk C (relS scope sc) k X' → Cx.G X' = Cx.G X → ∀ e, PE X' e (tD (Cx.G X) fun ρ => evI ρ e))
    (hT : ∀ (X' : L2.Cx), COk C (relS scope sc) k X' → Cx.G X' = Cx.G X → ∀ e, PT X' e (tT (Cx.G X) fun ρ => etI ρ e)) :
    PE X (.ListComp elt [⟨tg, iter, ifs, 0⟩] scope pos) (tS (Cx.G X) (compE C sc scope evO evI etI elt tg iter ifs)) := PE.of fun σ H Q q => by
  obtain ⟨own, wi, g, tt, te, h1, h2, h3, h4, h5, hns, h6⟩ := comp_core K hO hI hT q
  exact ⟨_, pe_lc (own := own) K.calm (by rw [K.N]; exact K.nd) h1 h2 h3 h4 h5 (by intro x; cases iter <;> first | rfl | (simp [notSet] at hns)), h6⟩
end
end Dv

set_option Elab.async false
set_option linter.all false
set_option maxRecDepth 100000
set_option maxHeartbeats 4000000
/-! comprehensions of two clauses without tests -/
namespace Dv
open PySem L2 RZ
variable [TabC]
def yesT : Rho → Option (Bool × Rho) := fun ρ => some (true, ρ)
def loop2E (vs vs1 : List Nat) (f : D → Rho → Option Rho) (src : Rho → Option (List D × Rho)) (f1 : D → Rho → Option Rho) (g : Rho → Option (D × Rho)) : List D → Rho → List D → Option (List D × Rho)
  | [], ρ, acc => some (acc, ρ)
  | d :: ds, ρ, acc => match f d ρ with
    | some ρ1 => match src ρ1 with
      | some (its1, ρ2) => match loopE vs1 f1 yesT g its1 (wipeR ρ2 vs1) acc with
        | some (acc', ρ3) => loop2E vs vs1 f src f1 g ds (wipeR ρ3 vs) acc'
        | none => none
      | none => none
    | none => none
/-- the names that a target stores -/
def tgN (N : List Str) : Expr → List Nat
  | .Name x _ => match idx x N with
    | some i => [i]
    | none => []
  | _ => []
def comp2E (C : Cf) (sc scope : Scope) (evO evI : Rho → Expr → Option (D × Rho)) (elt tg iter tg1 iter1 : Expr) (ρ : Rho) : Option (Sl × Rho) :=
  let own := ownOf C.N scope
  let vs := own.map (·.2)
  let vs1 := tgN C.N tg1
  if blkC C.N sc scope own && (notSet iter && notSet iter1 && offB C scope sc) && vs1.all (fun i => vs.contains i) then
    match itE sc evO tg iter ρ with
    | some (its, ρ1) => if noOwn ρ1 vs then
        match loop2E vs vs1 (tgtE C (mBlk scope) (fun i => vs.contains i) (relS scope sc) evI 8 tg) (itE (relS scope sc) evI tg1 iter1) (tgtE C (mBlk scope) (fun i => vs1.contains i) (relS scope sc) evI 8 tg1) (fun ρ => evI ρ elt) its (wipeR ρ1 vs) [] with
        | some (acc, ρ2) => some (.ow acc, mixR ρ1 ρ2 vs)
        | none => none
      else none
    | none => none
  else none
section
variable {G : Ctx} {D0 : Addr}
/-- an item in hand -/
theorem item_in {ρ : Rho} {σ : St} {H0 H : Hp} {its : List D} {J : It} {x : V} {H2 : Hp} {i : Nat} {Hs : Hp} {avs : List V} (IO : ItOk G J its Hs) (hs : Ex Hs H0) (E : REnv G ρ σ H0 H) (hlt : i < its.length) (hy : J.yld i H x H2) (hD : H D0 = some (.lst avs)) (hD0 : H0 D0 = none) :
    ∃ d, its[i]? = some d ∧ its.drop i = d :: its.drop (i + 1) ∧ ∃ H02, REnv G ρ σ H02 H2 ∧ Tr ρ σ H0 H ρ σ H02 H2 ∧ Rep G H02 d x ∧ H2 D0 = some (.lst avs) ∧ H02 D0 = none := by
  obtain ⟨d, hd, hx⟩ := IO.yld i H x H2 (hs.trans E.ex) hlt hy
  refine ⟨d, hd, ?_, ?_⟩
  · rw [List.drop_eq_getElem_cons hlt]
    congr 1
    have z := List.getElem?_eq_getElem hlt
    rw [hd] at z
    exact (Option.some.inj z).symm
  · rcases hx with ⟨rfl, hr⟩ | ⟨p, po, pv, hp, rfl, hr⟩
    · exact ⟨H0, E, Tr.refl _ _ _ _, hr.ex hs, hD, hD0⟩
    · have hp0 := E.ex.back hp
      have hDp : D0 ≠ p := ne_of_none hD hp
      refine ⟨_, E.newI hp, Tr.newI hp hp0, hr.ex (fun a o e => ?_), by rw [upd_ne hDp]; exact hD, by rw [upd_ne hDp]; exact hD0⟩
      by_cases ha : a = p
      · subst ha; rw [upd_same] at e ⊢; exact e
      · rw [upd_ne ha] at e ⊢; exact hs _ _ e
theorem no_own {ρ ρ' : Rho} {σ σ' : St} {H0 H H0' H' : Hp} {avs : List V} (T : Tr ρ σ H0 H ρ' σ' H0' H') (hD : H D0 = some (.lst avs)) (no : ¬ Own ρ σ D0) : ¬ Own ρ' σ' D0 := fun o => by
  rcases T.nw D0 o with z | z
  · exact no z
  · exact z.not hD
/-- the second clause's own loop -/
theorem inner_ok {vs1 : List Nat} {f1 : D → Rho → Option Rho} {g : Rho → Option (D × Rho)} {its1 : List D} {J1 : It} {ρb ρ4 : Rho} {σb σ2 : St} {H0b Hb H04 H4 : Hp} {avs4 : List V} {acc4 accF : List D} {ρF : Rho} {Nx : Hp → Prop}
    (hb : Hb D0 = none) (Tb : Tr ρb σb H0b Hb ρ4 σ2 H04 H4) (IO1 : ItOk G J1 its1 H04) (E4 : REnv G ρ4 σ2 H04 H4) (hD4 : H4 D0 = some (.lst avs4)) (hD04 : H04 D0 = none) (no4 : ¬ Own ρ4 σ2 D0) (r4 : Reps G H04 acc4 avs4)
    (hl : loopE vs1 f1 yesT g its1 (wipeR ρ4 vs1) acc4 = some (accF, ρF))
    (hNx : ∀ H' H0' avs', REnv G ρF (L2.wipe σ2 vs1) H0' H' → Tr ρb σb H0b Hb ρF (L2.wipe σ2 vs1) H0' H' → H' D0 = some (.lst avs') → H0' D0 = none → ¬ Own ρF (L2.wipe σ2 vs1) D0 → Reps G H0' accF avs' → Nx H') :
    ∃ W1 : Nat → Nat → Hp → Prop, (∃ m, W1 0 m H4) ∧ ∀ j k H, W1 j k H →
      (J1.stop j H ∧ Nx H) ∨ (J1.go j H ∧ ∃ Nx1 : Hp → Prop, (∀ H', Nx1 H' → ∃ k', k' < k ∧ W1 (j + 1) k' H') ∧ ∀ x H', J1.yld j H x H' → tG G (fun i => vs1.contains i) f1 x (L2.wipe σ2 vs1) H' fun σ3 H5 => L2.wipe σ3 vs1 = L2.wipe σ2 vs1 ∧ tYes σ3 H5 fun b H6 =>
        if b = true then tD G g σ3 H6 fun y H7 => ∃ acc, H7 D0 = some (.lst acc) ∧ acc.length < sizeLine ∧ Nx1 (upd H7 D0 (.lst (acc ++ [y]))) else Nx1 H6) := by
  refine ⟨fun j m H' => m = its1.length - j ∧ ∃ ρi acc H0i avs, j ≤ its1.length ∧ loopE vs1 f1 yesT g (its1.drop j) ρi acc = some (accF, ρF) ∧ REnv G ρi (L2.wipe σ2 vs1) H0i H' ∧ Tr ρb σb H0b Hb ρi (L2.wipe σ2 vs1) H0i H' ∧ Ex H04 H0i ∧ H' D0 = some (.lst avs) ∧ H0i D0 = none ∧ ¬ Own ρi (L2.wipe σ2 vs1) D0 ∧ Reps G H0i acc avs, ⟨its1.length, ?_⟩, ?_⟩
  · exact ⟨by simp, wipeR ρ4 vs1, acc4, H04, avs4, Nat.zero_le _, by simpa using hl, E4.wipe vs1, Tb.wipeR vs1, Ex.refl _, hD4, hD04, fun o => no4 (own_wipe o), r4⟩
  · rintro j m H' ⟨rfl, ρi, acc, H0i, avs, hi, hl, Ei, Ti, xi, hDi, hD0i, noi, ri⟩
    by_cases hlt : j < its1.length
    · refine .inr ⟨IO1.go j H' (xi.trans Ei.ex) hlt, fun H2 => ∃ ρi acc H0i avs, j + 1 ≤ its1.length ∧ loopE vs1 f1 yesT g (its1.drop (j + 1)) ρi acc = some (accF, ρF) ∧ REnv G ρi (L2.wipe σ2 vs1) H0i H2 ∧ Tr ρb σb H0b Hb ρi (L2.wipe σ2 vs1) H0i H2 ∧ Ex H04 H0i ∧ H2 D0 = some (.lst avs) ∧ H0i D0 = none ∧ ¬ Own ρi (L2.wipe σ2 vs1) D0 ∧ Reps G H0i acc avs, fun H2 h => ⟨its1.length - (j + 1), by omega, rfl, h⟩, fun x H2 hy => ?_⟩
      obtain ⟨d, _, hdrop, H02, E2, T2, r2, hD2, hD02⟩ := item_in IO1 xi Ei hlt hy hDi hD0i
      rw [hdrop] at hl
      simp only [loopE, yesT] at hl
      split at hl
      · rename_i ρa hf
        refine ⟨ρi, d, ρa, H02, hf, E2, r2, fun σ3 H3 H03 T3 E3 k3 => ?_⟩
        have wk : L2.wipe σ3 vs1 = L2.wipe σ2 vs1 := wipe_of_kpt k3 (fun j hj => by simpa using hj)
        refine ⟨wk, ?_⟩
        dsimp only [tYes]
        rw [if_pos rfl]
        obtain ⟨hD3, hD03⟩ := T3.fr D0 _ hD2 hD02 noi
        have no3 := no_own T3 hD2 noi
        split at hl
        · rename_i e ρc hg
          split at hl
          · rename_i hsz
            refine ⟨ρa, e, ρc, H03, hg, E3, fun y H5 H05 T5 E5 r5 => ?_⟩
            obtain ⟨hD5, hD05⟩ := T5.fr D0 _ hD3 hD03 no3
            have no5 := no_own T5 hD3 no3
            have len : acc.length = avs.length := ri.length
            have x5 := (T2.ex.trans T3.ex).trans T5.ex
            refine ⟨avs, hD5, by rw [← len]; exact sline_lt hsz, wipeR ρc vs1, acc ++ [e], H05, avs ++ [y], hlt, hl, ?_, ?_, xi.trans x5, upd_same, hD05, fun o => no5 ?_, ?_⟩
            · rw [← wk]; exact (E5.updD hD5 hD05 no5).wipe vs1
            · have TT := (((Ti.trans T2).trans T3).trans T5).wipeR vs1
              rw [wk] at TT
              refine ⟨TT.ex, fun a o h nt n no => ?_, TT.nw, fun a h => ?_⟩
              · have ha : a ≠ D0 := fun z => by rw [z, hb] at h; cases h
                rw [upd_ne ha]; exact TT.fr' a o h nt n no
              · by_cases ha : a = D0
                · subst ha; exact nn hb
                · exact TT.kp a fun u e => h u (by rw [upd_ne ha]; exact e)
            · rw [← wk] at o; exact own_wipe o
            · have rr : Reps G H05 acc avs := ri.ex x5
              exact rr.append (Reps.cons r5 Reps.nil)
          · cases hl
        · cases hl
      · cases hl
    · refine .inl ⟨IO1.stop j H' (xi.trans Ei.ex) (by omega), ?_⟩
      have hdrop : its1.drop j = [] := List.drop_eq_nil_of_le (by omega)
      rw [hdrop] at hl
      simp only [loopE, Option.some.injEq, Prod.mk.injEq] at hl
      obtain ⟨rfl, rfl⟩ := hl
      exact hNx H' H0i avs Ei Ti hDi hD0i noi ri
end
section
variable {X : L2.Cx} {C : Cf} {sc : Scope} {k : Nat} {pos : Pos}
/-- back behind the comprehension -/
theorem mix_back {G : Ctx} {ρ1 ρi : Rho} {σ : St} {H01 H1 H0i H' : Hp} {vs : List Nat} (hno : noOwn ρ1 vs = true) (E1 : REnv G ρ1 σ H01 H1) (Ei : REnv G ρi (L2.wipe σ vs) H0i H') (Ti : Tr (wipeR ρ1 vs) (L2.wipe σ vs) H01 H1 ρi (L2.wipe σ vs) H0i H') :
    Tr ρ1 σ H01 H1 (mixR ρ1 ρi vs) σ H0i H' ∧ REnv G (mixR ρ1 ρi vs) σ H0i H' ∧ ∀ a, Own (mixR ρ1 ρi vs) σ a → Own ρi (L2.wipe σ vs) a := by
  have own : ∀ a, Own (mixR ρ1 ρi vs) σ a → Own ρi (L2.wipe σ vs) a := fun a ⟨j, xs, e1, e2⟩ => by
    by_cases hj : j ∈ vs
    · exact (noOwn_of hno hj (mixR_in hj e1)).elim
    · rw [mixR_out hj] at e1
      exact ⟨j, xs, e1, by rw [wipe_get hj]; exact e2⟩
  refine ⟨⟨Ti.ex, fun a o h nt n no => Ti.fr' a o h nt n (fun z => no (own_wipe z)), fun a h => ?_, Ti.kp⟩, ⟨Ei.tb, Ei.ex, by rw [mixR_len, Ei.len, wipe_length], fun j d e => ?_, fun j d e => ?_, fun j d e => ?_, fun j d e => ?_, fun j d e => ?_, fun j l xs ys a e1 e2 e3 e4 => ?_⟩, own⟩
  · rcases Ti.nw a (own a h) with z | z
    · exact .inl (own_wipe z)
    · exact .inr z
  · by_cases hj : j ∈ vs
    · obtain ⟨v, h2, h3⟩ := E1.im j d (mixR_in hj e)
      exact ⟨v, h2, h3.ex Ti.ex⟩
    · rw [mixR_out hj] at e
      obtain ⟨v, h2, h3⟩ := Ei.im j d e
      rw [wipe_get hj] at h2
      exact ⟨v, h2, h3⟩
  · by_cases hj : j ∈ vs
    · exact E1.fn j d (mixR_in hj e)
    · rw [mixR_out hj] at e
      have := Ei.fn j d e
      rw [wipe_get hj] at this
      exact this
  · by_cases hj : j ∈ vs
    · exact (E1.fz j d (mixR_in hj e)).imp fun a h => ⟨h.1, ex_l Ti.ex h.2⟩
    · rw [mixR_out hj] at e
      have := Ei.fz j d e
      rw [wipe_get hj] at this
      exact this
  · by_cases hj : j ∈ vs
    · exact (E1.tt j d (mixR_in hj e)).imp fun a h => ⟨h.1, h.2.ex Ti.ex⟩
    · rw [mixR_out hj] at e
      have := Ei.tt j d e
      rw [wipe_get hj] at this
      exact this
  · by_cases hj : j ∈ vs
    · exact (noOwn_of hno hj (mixR_in hj e)).elim
    · rw [mixR_out hj] at e
      have := Ei.ow j d e
      rw [wipe_get hj] at this
      exact this
  · by_cases hj : j ∈ vs
    · exact (noOwn_of hno hj (mixR_in hj e1)).elim
    · by_cases hl : l ∈ vs
      · exact (noOwn_of hno hl (mixR_in hl e2)).elim
      · rw [mixR_out hj] at e1
        rw [mixR_out hl] at e2
        exact Ei.ap j l xs ys a e1 e2 (by rw [wipe_get hj]; exact e3) (by rw [wipe_get hl]; exact e4)
theorem wipe_wipe {σ : St} {vs vs1 : List Nat} (h : ∀ i ∈ vs1, i ∈ vs) : L2.wipe (L2.wipe σ vs1) vs = L2.wipe σ vs := by
  refine wipe_of_kpt (ok := fun i => vs.contains i) (σ := σ) ⟨by rw [wipe_length, wipe_length], fun j hj => ?_⟩ (fun i hi => by simpa using hi)
  have hj : j ∉ vs := by simpa using hj
  rw [wipe_get hj, wipe_get (fun z => hj (h j z))]
theorem pe_comp2 (K : COk C sc k X) {scope : Scope} {evO evI : Rho → Expr → Option (D × Rho)} {elt tg iter tg1 iter1 : Expr}
    (hO : ∀ e, PE X e (tD (Cx.G X) fun ρ => evO ρ e))
    (hI : ∀ (X' : L2.Cx), COk C (relS scope sc) k X' → Cx.G X' = Cx.G X → ∀ e, PE X' e (tD (Cx.G X) fun ρ => evI ρ e)) :
    PE X (.ListComp elt [⟨tg, iter, [], 0⟩, ⟨tg1, iter1, [], 0⟩] scope pos) (tS (Cx.G X) (comp2E C sc scope evO evI elt tg iter tg1 iter1)) := PE.of fun σ H Q q => by
  obtain ⟨ρ, s, ρ', H0, hev, E, q⟩ := q
  unfold comp2E at hev
  dsimp only at hev
  split at hev
  · rename_i hb
    simp only [Bool.and_eq_true] at hb
    obtain ⟨⟨hblk, ⟨hns, hns1⟩, hoff⟩, hsub⟩ := hb
    rw [List.all_eq_true] at hsub
    split at hev
    · rename_i its ρ1 h1
      split at hev
      · rename_i hno
        split at hev
        · rename_i accF ρF hF
          cases hev
          generalize hown : ownOf C.N scope = own at *
          have hsub : ∀ i ∈ tgN C.N tg1, i ∈ own.map (·.2) := fun i hi => by simpa using hsub i hi
          generalize hv1 : tgN C.N tg1 = vs1 at *
          refine ⟨_, pe_lc2 (own := own) (vs1 := vs1) (wi := tI (Cx.G X) (itE sc evO tg iter)) (g := tG (Cx.G X) (fun i => (own.map (·.2)).contains i) (tgtE C (mBlk scope) (fun i => (own.map (·.2)).contains i) (relS scope sc) evI 8 tg)) (tt := tYes) (wi1 := tI (Cx.G X) (itE (relS scope sc) evI tg1 iter1)) (g1 := tG (Cx.G X) (fun i => vs1.contains i) (tgtE C (mBlk scope) (fun i => vs1.contains i) (relS scope sc) evI 8 tg1)) (tt1 := tYes) (te := tD (Cx.G X) fun ρ => evI ρ elt) K.calm (by rw [K.N]; exact K.nd) (pi_src K hO tg iter) (blkOk_by (by rw [K.N, K.sc]; exact hblk)) hsub
            (fun s H c cl fp => pg_tgt (X := X.blk s H scope (compEnvC scope cl c X.env) fp) (m := mBlk scope) (ok := fun i => (own.map (·.2)).contains i) (K.blk hoff s H cl c fp) (fun x z => z) (hI _ (K.blk hoff s H cl c fp) rfl) 8 tg) (fun s H c cl fp => pts_nil)
            (fun s H c cl fp => pi_src (X := X.blk s H scope (compEnvC scope cl c X.env) fp) (K.blk hoff s H cl c fp) (hI _ (K.blk hoff s H cl c fp) rfl) tg1 iter1)
            (fun s H c cl fp => pg_tgt (X := X.blk s H scope (compEnvC scope cl c X.env) fp) (m := mBlk scope) (ok := fun i => vs1.contains i) (K.blk hoff s H cl c fp) (fun x z => z) (hI _ (K.blk hoff s H cl c fp) rfl) 8 tg1) (fun s H c cl fp => pts_nil)
            (fun s H c cl fp => hI (X.blk s H scope (compEnvC scope cl c X.env) fp) (K.blk hoff s H cl c fp) rfl elt) (by intro x; cases iter <;> first | rfl | (simp [notSet] at hns)) (by intro en x; cases iter1 <;> first | rfl | (simp [notSet] at hns1)), ?_⟩
          generalize hvs : own.map (·.2) = vs at *
          refine ⟨ρ, its, ρ1, H0, h1, E, fun J H1 H01 T1 E1 IO D hD => ?_⟩
          have hD0 : H01 D = none := E1.ex.back hD
          have noD : ¬ Own ρ1 σ D := fun o => by
            obtain ⟨us, z, _⟩ := own_tracked E1 o
            rw [hD] at z; cases z
          generalize hF1 : tgtE C (mBlk scope) (fun i => vs.contains i) (relS scope sc) evI 8 tg = f at *
          generalize hF2 : tgtE C (mBlk scope) (fun i => vs1.contains i) (relS scope sc) evI 8 tg1 = f1 at *
          refine ⟨fun i m H' => m = its.length - i ∧ ∃ ρi acc H0i avs, i ≤ its.length ∧ loop2E vs vs1 f (itE (relS scope sc) evI tg1 iter1) f1 (fun ρ => evI ρ elt) (its.drop i) ρi acc = some (accF, ρF) ∧
            REnv (Cx.G X) ρi (L2.wipe σ vs) H0i H' ∧ Tr (wipeR ρ1 vs) (L2.wipe σ vs) H01 H1 ρi (L2.wipe σ vs) H0i H' ∧ H' D = some (.lst avs) ∧ H0i D = none ∧ ¬ Own ρi (L2.wipe σ vs) D ∧ Reps (Cx.G X) H0i acc avs, ⟨its.length, ?_⟩, ?_⟩
          · exact ⟨by simp, wipeR ρ1 vs, [], H01, [], Nat.zero_le _, by simpa using hF, (E1.wipe vs).newO hD, Tr.newO hD, upd_same, hD0, fun o => noD (own_wipe o), Reps.nil⟩
          · rintro i m H' ⟨rfl, ρi, acc, H0i, avs, hi, hl, Ei, Ti, hDi, hD0i, noi, ri⟩
            by_cases hlt : i < its.length
            · refine .inr ⟨IO.go i H' (Ti.ex.trans Ei.ex) hlt, fun H2 => ∃ ρi acc H0i avs, i + 1 ≤ its.length ∧ loop2E vs vs1 f (itE (relS scope sc) evI tg1 iter1) f1 (fun ρ => evI ρ elt) (its.drop (i + 1)) ρi acc = some (accF, ρF) ∧
                REnv (Cx.G X) ρi (L2.wipe σ vs) H0i H2 ∧ Tr (wipeR ρ1 vs) (L2.wipe σ vs) H01 H1 ρi (L2.wipe σ vs) H0i H2 ∧ H2 D = some (.lst avs) ∧ H0i D = none ∧ ¬ Own ρi (L2.wipe σ vs) D ∧ Reps (Cx.G X) H0i acc avs, fun H2 h => ⟨its.length - (i + 1), by omega, rfl, h⟩, fun x H2 hy => ?_⟩
              obtain ⟨d, _, hdrop, H02, E2, T2, r2, hD2, hD02⟩ := item_in IO Ti.ex Ei hlt hy hDi hD0i
              rw [hdrop] at hl
              simp only [loop2E] at hl
              split at hl
              · rename_i ρa hf
                refine ⟨ρi, d, ρa, H02, hf, E2, r2, fun σ3 H3 H03 T3 E3 k3 => ?_⟩
                have wk : L2.wipe σ3 vs = L2.wipe σ vs := wipe_of_kpt k3 (fun j hj => by simpa using hj)
                refine ⟨wk, ?_⟩
                dsimp only [tYes]
                rw [if_pos rfl]
                obtain ⟨hD3, hD03⟩ := T3.fr D _ hD2 hD02 noi
                have no3 := no_own T3 hD2 noi
                split at hl
                · rename_i its1 ρb hs
                  refine ⟨ρa, its1, ρb, H03, hs, E3, fun J1 H4 H04 T4 E4 IO1 => ?_⟩
                  obtain ⟨hD4, hD04⟩ := T4.fr D _ hD3 hD03 no3
                  have no4 := no_own T4 hD3 no3
                  have x4 := (T2.ex.trans T3.ex).trans T4.ex
                  split at hl
                  · rename_i acc' ρc hin
                    refine inner_ok hD (((Ti.trans T2).trans T3).trans T4) IO1 E4 hD4 hD04 no4 (ri.ex x4) hin fun H' H0' avs' Ef Tf hDf hD0f nof rf => ?_
                    have ww : L2.wipe (L2.wipe σ3 vs1) vs = L2.wipe σ vs := (wipe_wipe hsub).trans wk
                    refine ⟨wipeR ρc vs, acc', H0', avs', hlt, hl, ?_, ?_, hDf, hD0f, fun o => nof ?_, rf⟩
                    · rw [← ww]; exact Ef.wipe vs
                    · have := Tf.wipeR vs
                      rw [ww] at this
                      exact this
                    · rw [← ww] at o; exact own_wipe o
                  · cases hl
                · cases hl
              · cases hl
            · refine .inl ⟨IO.stop i H' (Ti.ex.trans Ei.ex) (by omega), ?_⟩
              have hdrop : its.drop i = [] := List.drop_eq_nil_of_le (by omega)
              rw [hdrop] at hl
              simp only [loop2E, Option.some.injEq, Prod.mk.injEq] at hl
              obtain ⟨rfl, rfl⟩ := hl
              obtain ⟨T', Em, om⟩ := mix_back hno E1 Ei Ti
              exact q _ H' H0i (T1.trans T') Em ⟨D, avs, rfl, hDi, hD0i, ri, fun o => noi (om D o), .inr (T1.kp D (nn hD))⟩
        · cases hev
      · cases hev
    · cases hev
  · cases hev
end
end Dv

set_option Elab.async false
set_option linter.all false
set_option maxRecDepth 100000
set_option maxHeartbeats 4000000
/-! A set made turn by turn of whole numbers. -/
namespace DvS
open PySem PySem.Spec PyProof.Rows L2 PpSet
section
variable {X : Cx}
/-- the turns; D the set, S its members, n their number -/
def tSi (w : World) (wi : TI) (g : TG) (tt : TT) (te : TE) (vs : List Nat) : TE := fun σ H Q => wi σ H fun J H1 => ∀ D, H1 D = none → ∃ W : Nat → Nat → Hp → Prop, (∃ m, W 0 m (upd H1 D (SetO w D (fun _ => false) 0))) ∧ ∀ i m H, W i m H →
  (J.stop i H ∧ Q (.ref D) H) ∨ (J.go i H ∧ ∃ Nx : Hp → Prop, (∀ H', Nx H' → ∃ m', m' < m ∧ W (i + 1) m' H') ∧ ∀ x H', J.yld i H x H' → g x (wipe σ vs) H' fun σ2 H2 => wipe σ2 vs = wipe σ vs ∧ tt σ2 H2 fun b H3 =>
    if b = true then te σ2 H3 fun y H4 => ∃ (c : Int) (S : Int → Bool) (n : Nat), y = .int c ∧ H4 D = some (SetO w D S n) ∧ n + 1 < scanBound ∧ Nx (upd H4 D (SetO w D (fun j => S j || decide (j = c)) (if S c = true then n else n + 1))) else Nx H3)
theorem addI {Y : Cx} {pins : List (Addr × Obj)} {σ : L2.St} {H : Hp} {s : Shared} {D : Addr} {S : Int → Bool} {n : Nat} {c : Int} {u : Value} {E : Value → Shared → Prop} {R : Value → Shared → Prop} (I : Inv Y pins σ H s) (ru : RelV (.int c) u) (hD : H D = some (SetO Y.w D S n)) (room : n + 1 < scanBound)
    (h : ∀ s', Inv Y pins σ (upd H D (SetO Y.w D (fun j => S j || decide (j = c)) (if S c = true then n else n + 1))) s' → R .none s') : wpAny (model Y.prog Y.w) Y.A (call (.builtin "set.add") [.ref D, u]) R E s := by
  obtain ⟨tk, rfl⟩ := ru
  refine setR_add (setO_get I hD) room fun h' sb new => h _ ?_
  have he : ∃ u, h'.get? D = some u := by
    have ⟨o, _, _, _, ho, _⟩ := new
    exact ⟨o, ho⟩
  exact I.write (e := D) (t' := s.toks + 1) (by rw [hD]; trivial) (.inl rfl) (fun b u hb hu => (sb.2 b hb).trans hu) he (setO_new new)
theorem pe_si {elt tg iter : Expr} {ifs : List Expr} {scope : Scope} {own : List (PySem.Str × Nat)} {pos : Pos} {wi : TI} {g : TG} {tt : TT} {te : TE} (hc : X.calm = true) (hN : X.N.Nodup) (hi : PI X tg iter wi) (ok : BlkOk X.N X.env.scope scope own)
    (hg : ∀ (s : Shared) (H : Hp) (C : Addr) (cl : List (PySem.Str × Addr)) (fp : List Addr), PG (X.blk s H scope (compEnvC scope cl C X.env) fp) tg g) (ht : ∀ (s : Shared) (H : Hp) (C : Addr) (cl : List (PySem.Str × Addr)) (fp : List Addr), PTs (X.blk s H scope (compEnvC scope cl C X.env) fp) ifs tt)
    (he : ∀ (s : Shared) (H : Hp) (C : Addr) (cl : List (PySem.Str × Addr)) (fp : List Addr), PE (X.blk s H scope (compEnvC scope cl C X.env) fp) elt te) (hs : ∀ x, foldedSetIterable iter X.env x = pure x) :
    PE X (.SetComp elt [⟨tg, iter, ifs, 0⟩] scope pos) (tSi X.w wi g tt te (own.map (·.2))) := by
  refine ⟨fun pins s σ H Q I h => ?_⟩
  rw [eval_SetComp]
  have hfree : ∀ y ∈ scope.names, y.2 = .free → ∃ c, X.env.cells.lookup y.1 = some c := fun y hy e => I.ok.has _ (ok.free y hy e)
  refine wpAny_comprehension_free (use := none) rfl hs (closure_ok hfree) ok.kind (fun y hy e => by rw [ok.uniq y hy, e])
    (thn (hi.run pins s σ H _ I h) fun _ _ hx => thn hx fun itv s2 h2 => ?_)
  obtain ⟨it, fp, tn, J, H2, rfl, I2, T, st2, f2, q⟩ := h2
  refine newSet_ok (newEnv_comp ?_)
  -- the set is new
  obtain ⟨D, hD⟩ : ∃ D, s2.heap.objs.size = D := ⟨_, rfl⟩
  obtain ⟨W, ⟨m0, w0⟩, turn⟩ := q D (I2.hok.fresh (Nat.le_of_eq hD))
  obtain ⟨hp3, e3⟩ : ∃ hp3, s2.heap.push { cls := .type "set", dict := none, data := .set #[] 0 (.fresh 0 0 (!X.w.params.followText "set-order")) } = hp3 := ⟨_, rfl⟩
  have new3 : SetR X.w hp3 D (fun _ => false) 0 := by
    rw [← e3, ← hD]
    exact ⟨_, #[], 0, _, Heap.get?_push_size _ rfl, ⟨rfl, rfl, rfl⟩, rfl, (fun e he => by simp at he), (by simp), (fun k => by simp), (by decide), (by rfl), rfl, List.Pairwise.nil, by
      show _ ∨ (!X.w.params.followText "set-order") = true
      cases X.w.params.followText "set-order"
      · exact .inr rfl
      · exact .inl rfl⟩
  have old3 : ∀ b o, s2.heap.get? b = some o → hp3.get? b = some o := fun b o e => by rw [← e3]; exact Heap.get?_push_of_some _ e
  have sz3 : hp3.objs.size = s2.heap.objs.size + 1 := by rw [← e3, Heap.size_push]
  rw [e3, hD]
  obtain ⟨H3, eH3⟩ : ∃ H3, upd H2 D (SetO X.w D (fun _ => false) 0) = H3 := ⟨_, rfl⟩
  obtain ⟨s3, es3⟩ : ∃ s3 : Shared, ({ s2 with heap := hp3 } : Shared) = s3 := ⟨_, rfl⟩
  have hh3 : s3.heap = hp3 := by rw [← es3]
  have I3 : Inv X pins σ H3 s3 := by
    rw [← es3, ← eH3]
    exact I2.laid (t' := s2.toks) old3 (Nat.le_of_eq hD) (setO_new new3)
  have f3 : ∀ b ∈ fp, FpOk X pins H3 b ∧ b < s3.heap.objs.size := fun b hb => by
    obtain ⟨o, e, _⟩ := T.obj _ _ st2 b hb
    have hlt := Heap.lt_size e
    refine ⟨⟨?_, (f2 b hb).2⟩, by rw [hh3, sz3]; exact Nat.lt_succ_of_lt hlt⟩
    rw [← eH3, upd_ne (by rw [← hD]; exact Nat.ne_of_lt hlt)]
    exact (f2 b hb).1
  have st3 : tn 0 s3.heap := T.keep _ _ _ st2 fun b _ o e => by rw [hh3]; exact old3 b o e
  rw [eH3] at w0
  have I4 := block_start I3 ok hN f3
  obtain ⟨cl, ecl⟩ : ∃ cl, cellsFrom (s3.heap.objs.size + 1) scope.names (cloFrom X.env.cells scope.names []) = cl := ⟨_, rfl⟩
  have pg := hg s3 H3 s3.heap.objs.size cl fp
  have pt := ht s3 H3 s3.heap.objs.size cl fp
  have pe := he s3 H3 s3.heap.objs.size cl fp
  rw [ecl] at I4
  have goal : codeAny (model X.prog X.w) X.A (.compStart (.SetComp elt [⟨tg, iter, ifs, 0⟩] scope pos) 0 (.ref it) (.ref D) (compEnvC scope cl s3.heap.objs.size X.env))
      (compPost (model X.prog X.w) X.A X.xe none (EP X pins σ Q) (.ref D) s3.heap.objs.size) { s3 with heap := pushCells (s3.heap.push { cls := .type "dict", data := .dict #[] }) scope.names } := by
    obtain ⟨ce, ece⟩ : ∃ ce, compEnvC scope cl s3.heap.objs.size X.env = ce := ⟨_, rfl⟩
    have cL : ce.locals = s3.heap.objs.size := by rw [← ece]; rfl
    obtain ⟨s4, es4⟩ : ∃ s4 : Shared, ({ s3 with heap := pushCells (s3.heap.push { cls := .type "dict", data := .dict #[] }) scope.names } : Shared) = s4 := ⟨_, rfl⟩
    have st4 : tn 0 s4.heap := T.keep _ _ _ st3 fun b _ o e => by rw [← es4]; exact pushCells_keeps _ _ _ _ (Heap.get?_push_of_some _ e)
    rw [ece] at I4 pg pt pe ⊢
    rw [es4] at I4 ⊢
    have stat : ∀ {σ' : L2.St} {H' : Hp} {s' : Shared}, Inv (X.blk s3 H3 scope ce fp) [] σ' H' s' → (∀ b ∈ fp, H' b = none) → ∀ b ∈ fp, FpOk (X.blk s3 H3 scope ce fp) [] H' b := fun {σ' H' s'} I' hn b hb =>
      ⟨hn b hb, (I'.ok.exf b hb).1, I'.ok.exfs b hb, .inl hb, fun x c e => (I'.ok.exf b hb).2 x c e, fun p hp => absurd (show p ∈ ([] : List (Addr × Obj)) ++ [] from hp) (by simp)⟩
    have loop : codeAny (model X.prog X.w) X.A (.compLoop (.SetComp elt [⟨tg, iter, ifs, 0⟩] scope pos) 0 (.ref it) (.ref D) ce) (compPost (model X.prog X.w) X.A X.xe none (EP X pins σ Q) (.ref D) s3.heap.objs.size) s4 := by
      refine compLoopS_any (fun n s' => ∃ i H', Inv (X.blk s3 H3 scope ce fp) [] (wipe σ (own.map (·.2))) H' s' ∧ tn i s'.heap ∧ (∀ b ∈ fp, H' b = none) ∧ W i n H') ?_ m0 ⟨0, H3, I4, st4, fun b hb => (f3 b hb).1.1, w0⟩
      rintro n s5 ⟨i, H5, I5, st5, n5, w5⟩
      rcases turn i n H5 w5 with ⟨stop, qq⟩ | ⟨go, Nx, hNx, step⟩
      · refine thnF (T.done (X.blk s3 H3 scope ce fp) rfl rfl rfl hc i [] s5 _ H5 (fun _ _ => False) I5 (stat I5 n5) st5 stop) fun r s6 ⟨hr, I6⟩ => ?_
        subst hr
        have I7 : Inv X pins σ H5 s6 := I3.call' (ch := fp) I6.os I6.base I6.hok I6.bare fun b hb => ⟨(f3 b hb).1.2.2.2.1, (f3 b hb).1.2.1, (f3 b hb).1.2.2.2.2.1, (f3 b hb).1.2.2.2.2.2⟩
        have nC : H5 s3.heap.objs.size = none := cL ▸ (show H5 ce.locals = none from I6.free)
        obtain ⟨m, hn, _⟩ := I6.loc
        have hn' : s6.heap.Ns s3.heap.objs.size m := cL ▸ (show s6.heap.Ns ce.locals m from hn)
        refine ⟨m, hn', fun h'' sb => ?_⟩
        obtain ⟨g0, g1, g2, g3, g4, g5⟩ := I3.fpOk (Nat.le_refl _) nC
        exact ⟨.ref D, H5, I7.turned (t' := s6.toks) (fun b o hb e => (sb.2 b hb).trans e) g0 g1 g3 g4 g5, rfl, qq⟩
      · refine thnF (T.item (X.blk s3 H3 scope ce fp) rfl rfl rfl hc i [] s5 _ H5 (fun _ _ => False) I5 (stat I5 n5) st5 go) fun r s6 ⟨u, hr, h6⟩ => ?_
        subst hr
        refine thnF h6 fun _ s7 ⟨x, H7, I7, r7, y7, st7, n7⟩ => ?_
        have I7' := I7.pinned (stat I7 n7) (T.obj _ _ st7)
        refine thnF (pg.run _ s7 _ H7 x u _ I7' r7 (step x H7 y7)) fun _ s8 ⟨σ8, H8, I8, hw8, q8⟩ => ?_
        refine thnF (pt.run _ s8 σ8 H8 _ I8 q8) fun b s9 ⟨H9, I9, q9⟩ => ?_
        have fin : ∀ {s' : Shared} {H' : Hp}, Inv (X.blk s3 H3 scope ce fp) ([] ++ pinsAt fp s7.heap) σ8 H' s' → Nx H' → ∃ m, m < n ∧ ∃ i H', Inv (X.blk s3 H3 scope ce fp) [] (wipe σ (own.map (·.2))) H' s' ∧ tn i s'.heap ∧ (∀ b ∈ fp, H' b = none) ∧ W i m H' := fun {s' H'} I' nx => by
          obtain ⟨m', hm, w'⟩ := hNx H' nx
          have pin' : ∀ b ∈ fp, ∀ o, s7.heap.get? b = some o → s'.heap.get? b = some o ∧ H' b = none := fun b hb o e =>
            let z := I'.pin (b, o) (List.mem_append_right _ (List.mem_append_right _ (mem_pinsAt hb e)))
            ⟨z.1, z.2.1⟩
          refine ⟨m', hm, i + 1, H', (I'.unpinned (pins := [])).weak (by rw [← hw8, wipe_length]) (fun j v e => (wipe_some (hw8.symm ▸ e)).1), T.keep _ _ _ st7 fun b hb o e => (pin' b hb o e).1, fun b hb => ?_, w'⟩
          obtain ⟨o, e, _⟩ := T.obj _ _ st7 b hb
          exact (pin' b hb o e).2
        cases b with
        | false => exact fin I9 (by simpa using q9)
        | true =>
          simp only [if_true] at q9 ⊢
          refine thnF (pe.run _ s9 σ8 H9 _ I9 q9) fun z s10 ⟨yv, H10, I10, r10, c, S0, n0, ey, hD10, hz10, nx⟩ => ?_
          subst ey
          exact addI (Y := X.blk s3 H3 scope ce fp) I10 r10 hD10 hz10 fun s11 I11 => fin I11 nx
    exact codeAny_compStart_set loop (T.self X.A 0 _ _ _ st4 loop)
  have goal2 := goal
  rw [← ecl, ← es3] at goal2
  exact goal2
end
end DvS

set_option Elab.async false
set_option linter.all false
set_option maxRecDepth 100000
set_option maxHeartbeats 4000000
namespace Dv
open PySem L2 RZ
variable [TabC]
theorem code_ne_set {c : Addr} {q : Str} {w : World} {S : Int → Bool} {n : Nat} (h : LamX.CodeO c q = SetO w c S n) : False := by
  unfold LamX.CodeO SetO at h
  have h1 := HO.ext.inj h
  have h2 := congrFun h1 (({ objs := Array.replicate c default } : Heap).push { cls := .none, data := .fields #[.none, .str q default] })
  have g : (({ objs := Array.replicate c default } : Heap).push { cls := .none, data := .fields #[.none, .str q default] }).get? c = some { cls := .none, data := .fields #[.none, .str q default] } := by
    have z := Heap.get?_push_size ({ objs := Array.replicate c default } : Heap) (o := { cls := .none, data := .fields #[.none, .str q default] }) rfl
    have e : ({ objs := Array.replicate c default } : Heap).objs.size = c := by simp
    rw [e] at z
    exact z
  obtain ⟨o, es, m, x, e1, e2, _⟩ := h2.mp ⟨_, _, _, g, rfl, rfl⟩
  rw [g] at e1
  cases e1
  exact Value.noConfusion e2.1
theorem TbOk.set {H0 H : Hp} (h : TbOk H0 H) {p : Addr} {w w' : World} {S S' : Int → Bool} {n n' : Nat} (hp : H p = some (SetO w p S n)) : TbOk H0 (upd H p (SetO w' p S' n')) := by
  refine ⟨fun q hq => ?_, h.2⟩
  obtain ⟨ps, h1, h2, h3⟩ := h.1 q hq
  refine ⟨ps, by rw [upd_ne (fun z => by rw [z, hp] at h1; have := Option.some.inj h1; unfold SetO at this; cases this)]; exact h1, h2, fun pos cv hc => ?_⟩
  obtain ⟨c, e1, e2⟩ := h3 pos cv hc
  have ne : c ≠ p := fun z => by
    subst z
    rw [hp] at e2
    exact code_ne_set (Option.some.inj e2).symm
  exact ⟨c, e1, by rw [upd_ne ne]; exact e2⟩
theorem REnv.updS {G : Ctx} {ρ : Rho} {σ : St} {H0 H : Hp} (E : REnv G ρ σ H0 H) {p : Addr} {w w' : World} {S S' : Int → Bool} {n n' : Nat} (hp : H p = some (SetO w p S n)) (h0 : H0 p = none) (no : ¬ Own ρ σ p) : REnv G ρ σ H0 (upd H p (SetO w' p S' n')) := by
  refine ⟨E.tb.set hp, fun a u e => ?_, E.len, E.im, E.fn, E.fz, E.tt, fun i xs e => ?_, E.ap⟩
  · have hp : a ≠ p := fun z => by rw [z, h0] at e; cases e
    rw [upd_ne hp]; exact E.ex _ _ e
  · obtain ⟨a, vs, h1, h2, h3, h4⟩ := E.ow i xs e
    have hp : a ≠ p := fun z => no ⟨i, xs, e, by rw [← z]; exact h1⟩
    exact ⟨a, vs, h1, by rw [upd_ne hp]; exact h2, h3, h4⟩
theorem set_nt {w : World} {p : Addr} {S : Int → Bool} {n : Nat} : ∀ ps, SetO w p S n ≠ .tbl ps := fun ps z => by
  unfold SetO at z
  cases z

/-- whole numbers in order, each once -/
def dd : List Int → List Int
  | [] => []
  | x :: r => if x ∈ r then dd r else x :: dd r
theorem mem_dd {k : Int} : ∀ ns : List Int, k ∈ dd ns ↔ k ∈ ns
  | [] => Iff.rfl
  | x :: r => by
    unfold dd
    split
    · rename_i h
      rw [mem_dd r, List.mem_cons]
      exact ⟨.inr, fun z => z.elim (fun e => e ▸ h) id⟩
    · rw [List.mem_cons, List.mem_cons, mem_dd r]
theorem nd_dd : ∀ ns : List Int, (dd ns).Nodup
  | [] => List.nodup_nil
  | x :: r => by
    unfold dd
    split
    · exact nd_dd r
    · rename_i h
      exact List.nodup_cons.mpr ⟨fun z => h ((mem_dd r).mp z), nd_dd r⟩
def usort (ns : List Int) : List Int := isort (dd ns)
theorem mem_usort {k : Int} (ns : List Int) : k ∈ usort ns ↔ k ∈ ns := by
  unfold usort
  rw [(isort_perm _).mem_iff, mem_dd]
theorem usort_lt (ns : List Int) : (usort ns).Pairwise (· < ·) := by
  have h1 := isort_sorted (dd ns)
  have h2 : (isort (dd ns)).Nodup := (isort_perm _).nodup_iff.mpr (nd_dd ns)
  exact (h1.and h2).imp fun {a b} h => by omega
theorem usort_of {ns ms : List Int} (h : ms.Pairwise (· < ·)) (hm : ∀ k, k ∈ ms ↔ k ∈ ns) : ms = usort ns := by
  have nd : ∀ {xs : List Int}, xs.Pairwise (· < ·) → xs.Nodup := fun h => h.imp fun {a b} z => by omega
  exact sorted_one ((List.perm_ext_iff_of_nodup (nd h) (nd (usort_lt ns))).mpr fun k => by rw [hm, mem_usort]) (h.imp fun z => Int.le_of_lt z) ((usort_lt ns).imp fun z => Int.le_of_lt z)
def MemS (acc : List D) (S : Int → Bool) (n : Nat) : Prop := (∀ k, S k = true ↔ PyData.int k ∈ acc) ∧ n ≤ acc.length
theorem MemS.nil : MemS [] (fun _ => false) 0 := ⟨fun k => by simp, Nat.le_refl _⟩
theorem MemS.add {acc : List D} {S : Int → Bool} {n : Nat} (h : MemS acc S n) (c : Int) : MemS (acc ++ [.int c]) (fun j => S j || decide (j = c)) (if S c = true then n else n + 1) := by
  refine ⟨fun k => ?_, ?_⟩
  · simp [h.1]
  · have := h.2
    split <;> simp <;> omega
theorem loopE_pre {vs : List Nat} {f : D → Rho → Option Rho} {t : Rho → Option (Bool × Rho)} {g : Rho → Option (D × Rho)} : ∀ {its : List D} {ρ ρF : Rho} {acc accF : List D}, loopE vs f t g its ρ acc = some (accF, ρF) → ∃ r, accF = acc ++ r
  | [], ρ, ρF, acc, accF, h => by cases h; exact ⟨[], by simp⟩
  | d :: ds, ρ, ρF, acc, accF, h => by
    simp only [loopE] at h
    split at h
    · split at h
      · split at h
        · split at h
          · obtain ⟨r, hr⟩ := loopE_pre h
            exact ⟨_ :: r, by rw [hr, List.append_assoc]; rfl⟩
          · cases h
        · cases h
      · exact loopE_pre h
      · cases h
    · cases h
def setF : Option (Sl × Rho) → Option (Sl × Rho)
  | some (.ow acc, ρ) => match asInts acc with
    | some ns => if acc.length < 60 then some (.ow ((usort ns).map .int), ρ) else none
    | none => none
  | _ => none
theorem setE_eq {o : Option (Sl × Rho)} {s : Sl} {ρ : Rho} (h : setF o = some (s, ρ)) : ∃ acc ρ' ns, o = some (.ow acc, ρ') ∧ asInts acc = some ns ∧ acc.length < 60 ∧ (s, ρ) = (Sl.ow ((usort ns).map .int), ρ') := by
  unfold setF at h
  split at h
  · rename_i acc ρ1
    split at h
    · rename_i ns hn
      split at h
      · rename_i hl
        exact ⟨acc, ρ1, ns, rfl, hn, hl, (Option.some.inj h).symm⟩
      · cases h
    · cases h
  · cases h
section
variable {X : L2.Cx} {C : Cf} {sc : Scope} {k : Nat} {pos p sp : Pos}
theorem pe_sortSet (K : COk C sc k X) {scope : Scope} {evO evI : Rho → Expr → Option (D × Rho)} {etI : Rho → Expr → Option (Bool × Rho)} {elt tg iter : Expr} {ifs : List Expr}
    (hO : ∀ e, PE X e (tD (Cx.G X) fun ρ => evO ρ e))
    (hI : ∀ (X' : L2.Cx), COk C (relS scope sc) k X' → Cx.G X' = Cx.G X → ∀ e, PE X' e (tD (Cx.G X) fun ρ => evI ρ e))
    (hT : ∀ (X' : L2.Cx), COk C (relS scope sc) k X' → Cx.G X' = Cx.G X → ∀ e, PT X' e (tT (Cx.G X) fun ρ => etI ρ e)) (hg : globB sc "sorted" = true) :
    PE X (.Call (.Name "sorted" p) [.SetComp elt [⟨tg, iter, ifs, 0⟩] scope sp] [] pos) (tS (Cx.G X) fun ρ => setF (compE C sc scope evO evI etI elt tg iter ifs ρ)) := PE.of fun σ H Q q => by
  obtain ⟨ρ, s, ρ', H0, hev0, E, q⟩ := q
  obtain ⟨accF, ρF, ns, hev, hns', hlen, heq⟩ := setE_eq hev0
  cases heq
  unfold compE at hev
  dsimp only at hev
  split at hev
  · rename_i hb
    simp only [Bool.and_eq_true, decide_eq_true_eq] at hb
    obtain ⟨⟨hblk, hns, hoff⟩, hifs⟩ := hb
    split at hev
    · rename_i its ρ1 h1
      split at hev
      · rename_i hno
        split at hev
        · rename_i accF' ρF' hF
          cases hev
          have hAll : ∀ d ∈ accF, ∃ c, d = PyData.int c := fun d hd => by
            rw [asInts_eq hns'] at hd
            obtain ⟨c, _, e⟩ := List.mem_map.mp hd
            exact ⟨c, e.symm⟩
          generalize hown : ownOf C.N scope = own at *
          refine ⟨_, pe_callB (cr_sortedSet K.calm) (gl_of K.toCOkB hg) (K.blt "sorted" _ rfl) (by decide +kernel) (pa_cons (DvS.pe_si (X := X) (own := own) (wi := tI (Cx.G X) (itE sc evO tg iter)) (g := tG (Cx.G X) (fun i => (own.map (·.2)).contains i) (tgtE C (mBlk scope) (fun i => (own.map (·.2)).contains i) (relS scope sc) evI 8 tg))
            (tt := tT (Cx.G X) (ifsE etI ifs)) (te := tD (Cx.G X) fun ρ => evI ρ elt) K.calm (by rw [K.N]; exact K.nd) (pi_src K hO tg iter) (blkOk_by (by rw [K.N, K.sc]; exact hblk))
            (fun s H c cl fp => pg_tgt (X := X.blk s H scope (compEnvC scope cl c X.env) fp) (m := mBlk scope) (ok := fun i => (own.map (·.2)).contains i) (K.blk hoff s H cl c fp) (fun x z => z) (hI _ (K.blk hoff s H cl c fp) rfl) 8 tg)
            (fun s H c cl fp => pts_ifs (X := X.blk s H scope (compEnvC scope cl c X.env) fp) (hT _ (K.blk hoff s H cl c fp) rfl) ifs)
            (fun s H c cl fp => hI (X.blk s H scope (compEnvC scope cl c X.env) fp) (K.blk hoff s H cl c fp) rfl elt)
            (by intro x; cases iter <;> first | rfl | (simp [notSet] at hns))) pa_nil), ?_⟩
          generalize hvs : own.map (·.2) = vs at *
          refine ⟨ρ, its, ρ1, H0, h1, E, fun J H1 H01 T1 E1 IO D hD => ?_⟩
          have hD0 : H01 D = none := E1.ex.back hD
          have noD : ¬ Own ρ1 σ D := fun o => by
            obtain ⟨us, z, _⟩ := own_tracked E1 o
            rw [hD] at z; cases z
          refine ⟨fun i m H' => m = its.length - i ∧ ∃ ρi acc H0i S n, i ≤ its.length ∧
            loopE vs (tgtE C (mBlk scope) (fun i => vs.contains i) (relS scope sc) evI 8 tg) (ifsE etI ifs) (fun ρ => evI ρ elt) (its.drop i) ρi acc = some (accF, ρF') ∧
            REnv (Cx.G X) ρi (L2.wipe σ vs) H0i H' ∧ Tr (wipeR ρ1 vs) (L2.wipe σ vs) H01 H1 ρi (L2.wipe σ vs) H0i H' ∧ H' D = some (SetO X.w D S n) ∧ H0i D = none ∧ ¬ Own ρi (L2.wipe σ vs) D ∧ MemS acc S n, ⟨its.length, ?_⟩, ?_⟩
          · refine ⟨by simp, wipeR ρ1 vs, [], H01, fun _ => false, 0, Nat.zero_le _, by simpa using hF, (E1.wipe vs).newO hD, Tr.newO hD, upd_same, hD0, fun o => noD (own_wipe o), MemS.nil⟩
          · rintro i m H' ⟨rfl, ρi, acc, H0i, S, n, hi, hl, Ei, Ti, hDi, hD0i, noi, ri⟩
            by_cases hlt : i < its.length
            · refine .inr ⟨IO.go i H' (Ti.ex.trans Ei.ex) hlt, fun H2 => ∃ ρi acc H0i S n, i + 1 ≤ its.length ∧
                loopE vs (tgtE C (mBlk scope) (fun i => vs.contains i) (relS scope sc) evI 8 tg) (ifsE etI ifs) (fun ρ => evI ρ elt) (its.drop (i + 1)) ρi acc = some (accF, ρF') ∧
                REnv (Cx.G X) ρi (L2.wipe σ vs) H0i H2 ∧ Tr (wipeR ρ1 vs) (L2.wipe σ vs) H01 H1 ρi (L2.wipe σ vs) H0i H2 ∧ H2 D = some (SetO X.w D S n) ∧ H0i D = none ∧ ¬ Own ρi (L2.wipe σ vs) D ∧ MemS acc S n, fun H2 h => ⟨its.length - (i + 1), by omega, rfl, h⟩, fun x H2 hy => ?_⟩
              obtain ⟨d, hd, hx⟩ := IO.yld i H' x H2 (Ti.ex.trans Ei.ex) hlt hy
              have hdrop : its.drop i = d :: its.drop (i + 1) := by
                have := List.drop_eq_getElem_cons hlt
                rw [this]
                congr 1
                have z := List.getElem?_eq_getElem hlt
                rw [hd] at z
                exact (Option.some.inj z).symm
              rw [hdrop] at hl
              simp only [loopE] at hl
              -- the state with the item in hand
              have base : ∃ H02, REnv (Cx.G X) ρi (L2.wipe σ vs) H02 H2 ∧ Tr ρi (L2.wipe σ vs) H0i H' ρi (L2.wipe σ vs) H02 H2 ∧ Rep (Cx.G X) H02 d x ∧ H2 D = some (SetO X.w D S n) ∧ H02 D = none := by
                rcases hx with ⟨rfl, hr⟩ | ⟨p, po, pv, hp, rfl, hr⟩
                · exact ⟨H0i, Ei, Tr.refl _ _ _ _, hr.ex Ti.ex, hDi, hD0i⟩
                · have hp0 := Ei.ex.back hp
                  have hDp : D ≠ p := ne_of_none hDi hp
                  refine ⟨_, Ei.newI hp, Tr.newI hp hp0, hr.ex (fun a o e => ?_), by rw [upd_ne hDp]; exact hDi, by rw [upd_ne hDp]; exact hD0i⟩
                  by_cases ha : a = p
                  · subst ha; rw [upd_same] at e ⊢; exact e
                  · rw [upd_ne ha] at e ⊢; exact Ti.ex _ _ e
              obtain ⟨H02, E2, T2, r2, hD2, hD02⟩ := base
              split at hl
              · rename_i ρa hf
                refine ⟨ρi, d, ρa, H02, hf, E2, r2, fun σ3 H3 H03 T3 E3 k3 => ?_⟩
                refine ⟨wipe_of_kpt k3 (fun j hj => by simpa using hj), ?_⟩
                obtain ⟨hD3, hD03⟩ := T3.fr' D _ hD2 set_nt hD02 noi
                have no3 : ¬ Own ρa σ3 D := fun o => by
                  rcases T3.nw D o with z | z
                  · exact noi z
                  · exact z.not hD2 set_nt
                have T13 := (Ti.trans T2).trans T3
                have wk : L2.wipe σ3 vs = L2.wipe σ vs := wipe_of_kpt k3 (fun j hj => by simpa using hj)
                split at hl
                · rename_i ρb ht
                  refine ⟨ρa, true, ρb, H03, ht, E3, fun H4 H04 T4 E4 => ?_⟩
                  dsimp only
                  rw [if_pos rfl]
                  obtain ⟨hD4, hD04⟩ := T4.fr' D _ hD3 set_nt hD03 no3
                  have no4 : ¬ Own ρb σ3 D := fun o => by
                    rcases T4.nw D o with z | z
                    · exact no3 z
                    · exact z.not hD3 set_nt
                  split at hl
                  · rename_i e ρc hg
                    split at hl
                    · rename_i hsz
                      refine ⟨ρb, e, ρc, H04, hg, E4, fun y H5 H05 T5 E5 r5 => ?_⟩
                      obtain ⟨hD5, hD05⟩ := T5.fr' D _ hD4 set_nt hD04 no4
                      have no5 : ¬ Own ρc σ3 D := fun o => by
                        rcases T5.nw D o with z | z
                        · exact no4 z
                        · exact z.not hD4 set_nt
                      obtain ⟨c, rfl⟩ := hAll e (by
                        obtain ⟨r, hr⟩ := loopE_pre hl
                        rw [hr]; simp)
                      have hcl : acc.length < accF.length := by
                        obtain ⟨r, hr⟩ := loopE_pre hl
                        rw [hr]; simp
                      refine ⟨c, S, n, r5.int, hD5, (by have := ri.2; have : accF.length < 60 := hlen; show n + 1 < 4096; omega), wipeR ρc vs, acc ++ [.int c], H05, _, _, hlt, hl, ?_, ?_, upd_same, hD05, fun o => no5 ?_, ri.add c⟩
                      · rw [← wk]; exact (E5.updS hD5 hD05 no5).wipe vs
                      · have TT := ((T13.trans T4).trans T5)
                        have TT2 := TT.wipeR vs
                        rw [wk] at TT2
                        refine ⟨TT2.ex, fun a o h nt n' no => ?_, TT2.nw, fun a h => ?_⟩
                        · have ha : a ≠ D := fun z => by rw [z, hD] at h; cases h
                          rw [upd_ne ha]; exact TT2.fr' a o h nt n' no
                        · by_cases ha : a = D
                          · subst ha; exact nn hD
                          · exact TT2.kp a fun u e => h u (by rw [upd_ne ha]; exact e)
                      · rw [← wk] at o; exact own_wipe o
                    · cases hl
                  · cases hl
                · rename_i ρb ht
                  refine ⟨ρa, false, ρb, H03, ht, E3, fun H4 H04 T4 E4 => ?_⟩
                  dsimp only
                  rw [if_neg Bool.false_ne_true]
                  obtain ⟨hD4, hD04⟩ := T4.fr' D _ hD3 set_nt hD03 no3
                  have no4 : ¬ Own ρb σ3 D := fun o => by
                    rcases T4.nw D o with z | z
                    · exact no3 z
                    · exact z.not hD3 set_nt
                  refine ⟨wipeR ρb vs, acc, H04, S, n, hlt, hl, ?_, ?_, hD4, hD04, fun o => no4 ?_, ri⟩
                  · rw [← wk]; exact E4.wipe vs
                  · have TT2 := (T13.trans T4).wipeR vs
                    rw [wk] at TT2
                    exact TT2
                  · rw [← wk] at o; exact own_wipe o
                · cases hl
              · cases hl
            · refine .inl ⟨IO.stop i H' (Ti.ex.trans Ei.ex) (by omega), ?_⟩
              have hdrop : its.drop i = [] := List.drop_eq_nil_of_le (by omega)
              rw [hdrop] at hl
              simp only [loopE, Option.some.injEq, Prod.mk.injEq] at hl
              obtain ⟨rfl, rfl⟩ := hl
              have T' : Tr ρ1 σ H01 H1 (mixR ρ1 ρi vs) σ H0i H' := by
                refine ⟨Ti.ex, fun a o h nt n no => Ti.fr' a o h nt n (fun z => no (own_wipe z)), fun a ⟨j, xs, e1, e2⟩ => ?_, Ti.kp⟩
                by_cases hj : j ∈ vs
                · exact (noOwn_of hno hj (mixR_in hj e1)).elim
                · rw [mixR_out hj] at e1
                  rcases Ti.nw a ⟨j, xs, e1, by rw [wipe_get hj]; exact e2⟩ with z | z
                  · exact .inl (own_wipe z)
                  · exact .inr z
              obtain ⟨hm, hn⟩ := ri
              refine ⟨D, S, n, rfl, hDi, by omega, fun ms p hs hmem _ hp => ?_⟩
              have em : ms = usort ns := usort_of hs fun k => by
                rw [hmem, hm, asInts_eq hns']
                simp
              subst em
              have E2 : REnv (Cx.G X) (mixR ρ1 ρi vs) σ H0i H' := by
                refine ⟨Ei.tb, Ei.ex, by rw [mixR_len, Ei.len, wipe_length], fun j d e => ?_, fun j d e => ?_, fun j d e => ?_, fun j d e => ?_, fun j d e => ?_, fun j l xs ys a e1 e2 e3 e4 => ?_⟩
                · by_cases hj : j ∈ vs
                  · obtain ⟨v, h2, h3⟩ := E1.im j d (mixR_in hj e)
                    exact ⟨v, h2, h3.ex Ti.ex⟩
                  · rw [mixR_out hj] at e
                    obtain ⟨v, h2, h3⟩ := Ei.im j d e
                    rw [wipe_get hj] at h2
                    exact ⟨v, h2, h3⟩
                · by_cases hj : j ∈ vs
                  · exact E1.fn j d (mixR_in hj e)
                  · rw [mixR_out hj] at e
                    have := Ei.fn j d e
                    rw [wipe_get hj] at this
                    exact this
                · by_cases hj : j ∈ vs
                  · exact (E1.fz j d (mixR_in hj e)).imp fun a h => ⟨h.1, ex_l Ti.ex h.2⟩
                  · rw [mixR_out hj] at e
                    have := Ei.fz j d e
                    rw [wipe_get hj] at this
                    exact this
                · by_cases hj : j ∈ vs
                  · exact (E1.tt j d (mixR_in hj e)).imp fun a h => ⟨h.1, h.2.ex Ti.ex⟩
                  · rw [mixR_out hj] at e
                    have := Ei.tt j d e
                    rw [wipe_get hj] at this
                    exact this
                · by_cases hj : j ∈ vs
                  · exact (noOwn_of hno hj (mixR_in hj e)).elim
                  · rw [mixR_out hj] at e
                    have := Ei.ow j d e
                    rw [wipe_get hj] at this
                    exact this
                · by_cases hj : j ∈ vs
                  · exact (noOwn_of hno hj (mixR_in hj e1)).elim
                  · by_cases hl : l ∈ vs
                    · exact (noOwn_of hno hl (mixR_in hl e2)).elim
                    · rw [mixR_out hj] at e1
                      rw [mixR_out hl] at e2
                      exact Ei.ap j l xs ys a e1 e2 (by rw [wipe_get hj]; exact e3) (by rw [wipe_get hl]; exact e4)
              exact q _ _ _ ((T1.trans T').trans (Tr.newO hp)) (E2.newO hp) ((RSl.newO E2 hp (Reps.of_ints _)).via (T1.trans T'))
        · cases hev
      · cases hev
    · cases hev
  · cases hev
end
end Dv

set_option Elab.async false
set_option linter.all false
set_option maxRecDepth 100000
set_option maxHeartbeats 3200000
/-! set(x) of whole numbers, x a list or a tuple -/
namespace DvS
open PySem PySem.Spec PyProof.Rows L2
section
variable {P : Program} {w : World} {A : Around} {E : Value → Shared → Prop} {s : Shared}
abbrev setO0 (w : World) : Obj := { cls := .type "set", dict := none, data := .set #[] 0 (.fresh 0 0 (!w.params.followText "set-order")) }
theorem call_setL {l : Addr} {xs : Array Value} (ns : List Int) {Q : Value → Shared → Prop} (hh : A.handled = none) (d : s.heap.IsList l xs) (hi : IntsAre xs.toList ns) (few : ns.length + 1 < scanBound)
    (q : ∀ (h' : Heap) (tk c : Nat), SetR w h' s.heap.objs.size (fun j => decide (j ∈ ns)) c → c ≤ ns.length → (∀ a o, s.heap.get? a = some o → h'.get? a = some o) → Q (.ref s.heap.objs.size) { s with heap := h', toks := tk }) :
    wpAny (model P w) A (call (.type "set") [.ref l]) Q E s := by
  have size : xs.size = ns.length := by
    have z := hi.length
    rwa [Array.length_toList] at z
  obtain ⟨k0, k1, k2⟩ := F.called_set.mro
  have k3 := F.called_set.made
  have k4 := F.called_set.sub
  refine wpAny_call (codeAny_of_tree ?_)
  show wpAny (model P w) _ (callAny (.type "set") ⟨[.ref l], []⟩) _ _ s
  refine wpAny_pure ⟨Code.quiet_builtin _ (by decide +kernel), codeAny_builtin F.entry_type_call ?_⟩
  rw [Around.under_plain (weight_type_call_type "set" ([.ref l] : List Value) []) rfl]
  have k5 := F.called_set.notType
  have k6 := F.called_set.canCreate
  have k7 := F.typeCall_set_1 (.ref l)
  repeat (any_goals (first | assumption | wp_step))
  let o0 : Obj := setO0 w
  refine codeAny_mono (code_set_led1 (.ref l) (E := E) (Q₁ := fun v s1 => v = .ref s.heap.objs.size ∧ s1 = { s with heap := s.heap.push (setO0 w) }) ⟨rfl, rfl⟩) fun r s1 hr => ?_
  match r, hr with
  | .error e, hr => exact hr
  | .ok (.ret v), hr =>
    obtain ⟨rfl, rfl⟩ := hr
    have g0 : (s.heap.push (setO0 w)).get? s.heap.objs.size = some (setO0 w) := Heap.get?_push_size _ rfl
    have g1 : Shared.TypeIs { s with heap := s.heap.push (setO0 w) } (.ref s.heap.objs.size) "set" := ⟨_, g0, rfl⟩
    have k8 := F.called_set.init.lookup
    have k9 := F.called_set.init.bind (.ref s.heap.objs.size)
    repeat (any_goals (first | assumption | wp_step))
    refine codeAny_mono (codeAny_call_builtin (R := wants (fun v s2 => v = .none ∧ ∃ h' tk c, s2 = { s with heap := h', toks := tk } ∧ SetR w h' s.heap.objs.size (fun j => decide (j ∈ ns)) c ∧ c ≤ ns.length ∧ ∀ a o, s.heap.get? a = some o → h'.get? a = some o) E)
      F.called_set.init.plain F.entry_set_init (check_set_init_1 g1 ?_)) fun r2 s2 hr2 => ?_
    · obtain ⟨⟨oc, od, ox, os0⟩, hl, e1, n, e2⟩ := d
      simp only at e1 e2
      subst e1 e2
      have g2 : (s.heap.push (setO0 w)).get? l = some { cls := .type "list", dict := od, data := .seq xs n, slots := os0 } := Heap.get?_push_of_some _ hl
      have f1 := F.sub_list_set
      have f2 := F.sub_list_frozenset
      have f3 : (Value.type "list" == Value.type "dict") = false := by decide
      have d1 : (s.heap.push (setO0 w)).IsList l xs := ⟨_, g2, rfl, n, rfl⟩
      unfold Builtin.«set.__init__» noKeywords Builtin.Frozenset.updateFrom
      generalize walk : pyIter = it
      wp_walk
      subst walk
      refine wpAny_pyIter_list d1 ?_
      refine wpAny_bind (wpAny_runValue ?_)
      have l0 : l < s.heap.objs.size := Heap.lt_size hl
      have up : (s.heap.push (setO0 w)).objs.size = s.heap.objs.size + 1 := Heap.size_push ..
      have a1 : l ≠ (s.heap.push (setO0 w)).objs.size := by rw [up]; exact Nat.ne_of_lt (Nat.lt_succ_of_lt l0)
      have a2 : s.heap.objs.size ∉ [(s.heap.push (setO0 w)).objs.size, l] := by
        rw [up]
        intro z
        rcases List.mem_cons.mp z with z | z
        · exact absurd z (Nat.ne_of_lt (Nat.lt_succ_self _))
        · exact absurd (List.mem_singleton.mp z) (Nat.ne_of_gt l0)
      have vals : ∀ (i : Nat) (v : Value), xs[i]? = some v → ∃ k t, ns[i]? = some k ∧ v = .int k t := fun i v hv => by
        have lt : i < ns.length := by rw [← size]; exact (Array.getElem?_eq_some_iff.mp hv).1
        obtain ⟨t, e⟩ := hi.int_at i v (by rw [Array.getElem?_toList, hv])
        refine ⟨ns[i], t, List.getElem?_eq_getElem lt, e.trans ?_⟩
        rw [List.getD_eq_getElem?_getD, List.getElem?_eq_getElem lt]
        rfl
      refine set_update_ints (Walks.toS (Walks.list (show A.in1.in1.in1.handled = none from hh) _ l a1 xs)) s.heap.objs.size a2 ns size few vals _ 0 _ rfl (Nat.zero_le _) ⟨⟨_, Heap.get?_push_size _ rfl, rfl, rfl⟩, d1.push _⟩ ⟨0, Nat.le_refl _, setR_new_at (Heap.get?_push_of_some _ g0)⟩ ?_
      rintro ⟨h', gs, dr, tk, osy⟩ c' mv hc' hS
      have m1 : gs = s.gens := mv.gens
      have m2 : dr = s.drawn := mv.drawn
      have m3 : osy = s.os := mv.os
      subst m1 m2 m3
      refine wpAny_pure ?_
      rw [size] at hc'
      refine wpAny_pure ⟨rfl, h', tk, c', rfl, hS, hc', fun b o e => mv.heap b o (fun z => ?_) (Heap.get?_push_of_some _ (Heap.get?_push_of_some _ e))⟩
      have b0 : b < s.heap.objs.size := Heap.lt_size e
      rcases List.mem_cons.mp z with z | z
      · exact absurd z (Nat.ne_of_lt b0)
      · have y := List.mem_singleton.mp z
        rw [up] at y
        exact absurd y (Nat.ne_of_lt (Nat.lt_succ_of_lt b0))
    · match r2, hr2 with
      | .error e, hr2 => exact hr2
      | .ok (.ret v), hr2 =>
        obtain ⟨rfl, h', tk, c, rfl, z1, z2, z3⟩ := hr2
        repeat (any_goals (first | assumption | wp_step))
        exact q _ _ _ z1 z2 z3
end
/-- set(x) -/
def rSetI (K : PySem.W.Frag) (w : World) : List V → Hp → VK → Prop := fun vs H Q => ∃ (a : Addr) (ns : List Int), vs = [V.ref a] ∧ (SqL K H a (ns.map V.int) ∨ SqT K H a (ns.map V.int)) ∧ ns.length ≤ 60 ∧
  ∀ (p : Addr) (S : Int → Bool) (c : Nat), H p = none → (∀ k, S k = true ↔ k ∈ ns) → c ≤ ns.length → Q (.ref p) (upd H p (SetO w p S c))
theorem cr_setI {X : L2.Cx} (hc : X.calm = true) : CallR X (.type "set") (rSetI X.K X.w) := by
  intro pins s σ H vs us Q I r h
  obtain ⟨a, ns, rfl, hs, hl, q⟩ := h
  rw [Vals.ref1 r]
  have few : ns.length + 1 < scanBound := by unfold scanBound; omega
  have fin : ∀ (h' : Heap) (tk c : Nat), SetR X.w h' s.heap.objs.size (fun j => decide (j ∈ ns)) c → c ≤ ns.length → (∀ a o, s.heap.get? a = some o → h'.get? a = some o) → EP X pins σ Q (.ref s.heap.objs.size) { s with heap := h', toks := tk } := fun h' tk c hS hc' kp =>
    ⟨.ref s.heap.objs.size, upd H s.heap.objs.size (SetO X.w s.heap.objs.size (fun j => decide (j ∈ ns)) c), I.laid (t' := tk) kp (Nat.le_refl _) (setO_new hS), rfl, q _ _ _ (I.hok.fresh (Nat.le_refl _)) (fun k => by simp) hc'⟩
  rcases hs with hs | hs
  · obtain ⟨us, rv, pl, _⟩ := I.list hs
    exact call_setL ns (I.ok.hd hc) (show s.heap.IsList a us.toArray from pl.isList) (by simpa using rv.ints) few fin
  · obtain ⟨us, rv, pl, _⟩ := I.tuple hs
    exact call_set_tupI ns (I.ok.hd hc) (show s.heap.IsTuple a us.toArray from pl) (by simpa using rv.ints) few fin
end DvS
namespace Dv
open PySem L2 RZ
variable [TabC]
/-- sorted(set(x)) -/
def setLE (ev : Rho → Option (D × Rho)) (ρ : Rho) : Option (Sl × Rho) := match ev ρ with
  | some (.list xs, ρ1) => match asInts xs with
    | some ns => if xs.length < 60 then some (.ow ((usort ns).map .int), ρ1) else none
    | none => none
  | some (.tuple xs, ρ1) => match asInts xs with
    | some ns => if xs.length < 60 then some (.ow ((usort ns).map .int), ρ1) else none
    | none => none
  | _ => none
section
variable {X : L2.Cx} {C : Cf} {sc : Scope} {k : Nat} {a : Expr} {p p2 pos pos2 : Pos} {ev : Rho → Option (D × Rho)}
theorem pe_setLS (K : COk C sc k X) (h : PE X a (tD (Cx.G X) ev)) (hst : notStar a = true) (h1 : globB sc "sorted" = true) (h2 : globB sc "set" = true) :
    PE X (.Call (.Name "sorted" p) [.Call (.Name "set" p2) [a] [] pos2] [] pos) (tS (Cx.G X) (setLE ev)) := PE.of fun σ H Q q => by
  refine ⟨_, pe_callB (cr_sortedSet K.calm) (gl_of K.toCOkB h1) (K.blt "sorted" _ rfl) (by decide +kernel) (pa_cons (pe_callTy (DvS.cr_setI K.calm) (gl_of K.toCOkB h2) K.isi.2.2.2.2 (by decide +kernel) (pa_cons h pa_nil (star_of hst)) (by decide) (by decide) (star_of hst) (by rfl)) pa_nil rfl) (by decide) (by decide) rfl (by rfl), ?_⟩
  obtain ⟨ρ, s, ρ', H0, hev, E, q⟩ := q
  have fin : ∀ {ρ1 : Rho} {H1 H01 : Hp} {a : Addr} {ns : List Int}, Tr ρ σ H0 H ρ1 σ H01 H1 → REnv (Cx.G X) ρ1 σ H01 H1 → (SqL X.K H1 a (ns.map V.int) ∨ SqT X.K H1 a (ns.map V.int)) → ns.length < 60 →
      (∀ v H' H0', Tr ρ σ H0 H ρ1 σ H0' H' → REnv (Cx.G X) ρ1 σ H0' H' → RSl (Cx.G X) ρ σ H ρ1 H0' H' (.ow ((usort ns).map .int)) v → Q v H') → DvS.rSetI X.K X.w [.ref a] H1 fun p H2 => rSortedSet X.w [p] H2 Q := fun {ρ1 H1 H01 a ns} T1 E1 hs hl q => by
    refine ⟨a, ns, rfl, hs, by omega, fun p S c hp hS hc => ⟨p, S, c, rfl, upd_same, by omega, fun ms r hup hm _ hr => ?_⟩⟩
    have em : ms = usort ns := usort_of hup fun j => by rw [hm, hS]
    subst em
    have E2 := E1.newO (o := SetO X.w p S c) hp
    have T2 := T1.trans (Tr.newO (ρ := ρ1) (σ := σ) (H0 := H01) (o := SetO X.w p S c) hp)
    exact q _ _ _ (T2.trans (Tr.newO hr)) (E2.newO hr) ((RSl.newO E2 hr (Reps.of_ints _)).via T2)
  unfold setLE at hev
  split at hev
  · rename_i xs ρ1 e1
    split at hev
    · rename_i ns hn
      split at hev
      · rename_i hl
        cases hev
        have hx := asInts_eq hn
        subst hx
        rw [List.length_map] at hl
        refine ⟨ρ, _, _, H0, e1, E, fun v H1 H01 T1 E1 r1 => ?_⟩
        obtain ⟨a, vs, rfl, g1, g2⟩ := r1.lst
        rw [g2.ints] at g1
        exact fin T1 E1 (.inl (SqL.of (E1.ex _ _ g1))) hl q
      · cases hev
    · cases hev
  · rename_i xs ρ1 e1
    split at hev
    · rename_i ns hn
      split at hev
      · rename_i hl
        cases hev
        have hx := asInts_eq hn
        subst hx
        rw [List.length_map] at hl
        refine ⟨ρ, _, _, H0, e1, E, fun v H1 H01 T1 E1 r1 => ?_⟩
        obtain ⟨a, vs, rfl, g1, g2⟩ := r1.tup
        rw [g2.ints] at g1
        exact fin T1 E1 (.inr (.inl (ex_rd E1.ex g1))) hl q
      · cases hev
    · cases hev
  · cases hev
end
end Dv

set_option Elab.async false
set_option linter.all false
set_option maxRecDepth 100000
set_option maxHeartbeats 4000000
namespace Dv
open PySem L2 RZ
variable [TabC]

/-- tuple(range(a)) -/
def tupRgE (ev : Rho → Option (D × Rho)) (ρ : Rho) : Option (D × Rho) := match ev ρ with
  | some (.int n, ρ1) => if 0 ≤ n ∧ n ≤ 100000 then some (.tuple (rangeD n.toNat), ρ1) else none
  | _ => none
theorem pe_tupRgS {X : L2.Cx} {C : Cf} {sc : Scope} {k : Nat} (K : COk C sc k X) {a : Expr} {p p2 pos pos2 : Pos} {ev : Rho → Option (D × Rho)} (h : PE X a (tD (Cx.G X) ev)) (hst : notStar a = true) (h1 : globB sc "tuple" = true) (h2 : globB sc "range" = true) :
    PE X (.Call (.Name "tuple" p) [.Call (.Name "range" p2) [a] [] pos2] [] pos) (tD (Cx.G X) (tupRgE ev)) := PE.of fun σ H Q q => by
  refine ⟨_, pe_tupRgN K.calm (gl_of K.toCOkB h1) K.tys.2.2.1 (prg_1 (gl_of K.toCOkB h2) K.isi.2.1 h (star_of hst)), ?_⟩
  obtain ⟨ρ, d, ρ', H0, hev, E, q⟩ := q
  unfold tupRgE at hev
  split at hev
  · rename_i n ρ1 e1
    split at hev
    · rename_i hn
      cases hev
      refine ⟨ρ, _, _, H0, e1, E, fun v H1 H01 T1 E1 r1 => ⟨n, r1.int, RgOk.of_le (Int.le_refl _) (by omega) (by omega) hn.1, fun p o hp ho => ?_⟩⟩
      refine q _ _ _ (T1.trans (Tr.newI hp (E1.ex.back hp))) (E1.newI hp) (rep_tupO (.new ho) ?_)
      have e : rgV 0 n = ((List.range n.toNat).map fun i : Nat => Int.ofNat i).map V.int := by
        unfold rgV
        simp
      have e2 : rangeD n.toNat = ((List.range n.toNat).map fun i : Nat => Int.ofNat i).map PyData.int := by
        unfold rangeD
        simp
      rw [e, e2]
      exact Reps.of_ints _
    · cases hev
  · cases hev

def Evs.d (r : Evs) (sc : Scope) (ρ : Rho) (e : Expr) : Option (D × Rho) := frz (r.e sc ρ e)
def imE (o : Option (D × Rho)) : Option (Sl × Rho) := o.map fun p => (.im p.1, p.2)
/-- a[b] -/
def subE (C : Cf) (r : Evs) (sc : Scope) (ρ : Rho) (a b : Expr) : Option (D × Rho) := if notSlice b = false then none else
  match a with
  | .Name x _ => match slotE C sc x with
    | some i => match ixO i (fun ρ => r.d sc ρ b) ρ with
      | some q => some q
      | none => ixE (fun ρ => r.d sc ρ a) (fun ρ => r.d sc ρ b) ρ
    | none => ixE (fun ρ => r.d sc ρ a) (fun ρ => r.d sc ρ b) ρ
  | _ => ixE (fun ρ => r.d sc ρ a) (fun ρ => r.d sc ρ b) ρ
/-- f(..) -/
def lenE' (C : Cf) (sc : Scope) (ρ : Rho) (f : Str) : List Expr → Option (D × Rho)
  | [.Name x _] => if f = "len" ∧ globB sc "len" = true then match slotE C sc x with
      | some i => lenO i ρ
      | none => none
    else none
  | _ => none
def isiE' (r : Evs) (sc : Scope) (ρ : Rho) (f : Str) : List Expr → Option (D × Rho)
  | [a, .Name x _] => if f = "isinstance" ∧ globB sc "isinstance" = true ∧ globB sc x = true ∧ plainName x = true ∧ notStar a = true then match tyName x with
      | some T => isiE T (fun ρ => r.d sc ρ a) ρ
      | none => none
    else none
  | _ => none
def callE (C : Cf) (r : Evs) (sc : Scope) (ρ : Rho) (f : Str) (es : List Expr) : Option (Sl × Rho) :=
  match lenE' C sc ρ f es with
  | some q => some (.im q.1, q.2)
  | none => match isiE' r sc ρ f es with
    | some q => some (.im q.1, q.2)
    | none => if es.all notStar = true ∧ es ≠ [] then
        match slotE C sc f with
        | some i => match ρ[i]? with
          | some (some (.fn y)) => match C.fns y with
            | some fn => if fn.box then none else givE C sc (r.e sc) fn es ρ
            | none => none
          | _ => none
        | none => if globB sc f = true ∧ plainName f = true then
            match bltV f with
            | some _ => bltE f (evDs (r.d sc) es) ρ
            | none => match C.fns f with
              | some fn => userE C sc (r.e sc) fn es ρ
              | none => none
          else none
      else none
def tupC (C : Cf) (sc : Scope) (f : Str) : Bool := C.tt.b && decide (f = "tuple") && globB sc "tuple"
def cntS (C : Cf) (r : Evs) (sc : Scope) (ρ : Rho) (x m : Str) (line : Bool) (b : Expr) : Option (D × Rho) := if m = "count" ∧ line = true ∧ notStar b = true then match slotE C sc x with
    | some i => cntE i (fun ρ => r.d sc ρ b) ρ
    | none => none
  else none
def stepE0 (C : Cf) (r : Evs) (sc : Scope) (ρ : Rho) : Expr → Option (Sl × Rho)
  | .Constant c _ _ => imE ((constE c).map fun d => (d, ρ))
  | .Name x _ => nameE C sc x ρ
  | .Tuple es _ _ => imE (tupE (evDs (r.d sc) es) ρ)
  | .List [.Starred a _, b] _ => if notStar b then starE2 (fun ρ => r.d sc ρ a) (fun ρ => r.d sc ρ b) ρ else none
  | .List es _ => lstE (evDs (r.d sc) es) ρ
  | .BinOp a op b _ => binE op (fun ρ => r.d sc ρ a) (fun ρ => r.d sc ρ b) ρ
  | .UnaryOp .Not a _ => imE (notD (fun ρ => r.d sc ρ a) ρ)
  | .UnaryOp .USub a _ => imE (negE (fun ρ => r.d sc ρ a) ρ)
  | .BoolOp op es _ => imE (boolE op (r.d sc) es ρ)
  | .Compare a [op] [b] _ => imE (toD (cmpE op b (fun ρ => r.d sc ρ a) (fun ρ => r.d sc ρ b)) ρ)
  | .Compare a [op, op'] [b, c] _ => imE (toD (chainE op op' b c (fun ρ => r.d sc ρ a) (fun ρ => r.d sc ρ b) (fun ρ => r.d sc ρ c)) ρ)
  | .IfExp c a b _ => ifE (fun ρ => r.t sc ρ c) (fun ρ => r.e sc ρ a) (fun ρ => r.e sc ρ b) ρ
  | .Subscript a (.Slice lo hi none _) _ => slcE (r.d sc) a lo hi ρ
  | .Subscript a (.Slice none none (some st) _) _ => imE (backE (fun ρ => r.d sc ρ a) (fun ρ => r.d sc ρ st) ρ)
  | .Subscript a b _ => imE (subE C r sc ρ a b)
  | .Call (.Name f _) [.SetComp elt [⟨tg, iter, ifs, 0⟩] scope _] [] _ => if f = "sorted" ∧ globB sc "sorted" = true then setF (compE C sc scope (r.d sc) (r.d (relS scope sc)) (r.t (relS scope sc)) elt tg iter ifs ρ) else none
  | .Call (.Name f _) [.Call (.Name g pg) [a] [] pc] [] _ => if f = "tuple" ∧ g = "range" ∧ globB sc "tuple" = true ∧ globB sc "range" = true ∧ notStar a = true then imE (tupRgE (fun ρ => r.d sc ρ a) ρ) else if f = "sorted" ∧ g = "set" ∧ globB sc "sorted" = true ∧ globB sc "set" = true ∧ notStar a = true then setLE (fun ρ => r.d sc ρ a) ρ else callE C r sc ρ f [.Call (.Name g pg) [a] [] pc]
  | .Call (.Name f _) [.Name y py] [] _ => if tupC C sc f then tupNE (fun ρ => r.d sc ρ (.Name y py)) ρ else callE C r sc ρ f [.Name y py]
  | .Call (.Attribute (.Name x _) m apos) [b] [] cpos => imE (cntS C r sc ρ x m (apos.endLine == cpos.line) b)
  | .Call (.Name f _) es [] _ => callE C r sc ρ f es
  | .ListComp elt [⟨tg, iter, ifs, 0⟩] scope _ => compE C sc scope (r.d sc) (r.d (relS scope sc)) (r.t (relS scope sc)) elt tg iter ifs ρ
  | .ListComp elt [⟨tg, iter, [], 0⟩, ⟨tg1, iter1, [], 0⟩] scope _ => comp2E C sc scope (r.d sc) (r.d (relS scope sc)) elt tg iter tg1 iter1 ρ
  | _ => none
/-- a place with an evaluator of its own -/
def hkE (C : Cf) (r : Evs) (sc : Scope) (ρ : Rho) (e : Expr) : Option (Sl × Rho) := cond (C.tt.on sc) (match C.tt.hk with
  | some h => h r sc ρ e
  | none => none) none
/-- repr(a) -/
def repA (C : Cf) (sc : Scope) (e : Expr) : Option Expr := cond C.tt.rp (match e with
  | .Call (.Name f _) [a] [] _ => if f = "repr" ∧ globB sc "repr" = true ∧ notStar a = true then some a else none
  | _ => none) none
def stepE (C : Cf) (r : Evs) (sc : Scope) (ρ : Rho) (e : Expr) : Option (Sl × Rho) := match hkE C r sc ρ e with
  | some q => some q
  | none => match repA C sc e with
    | some a => imE (repE (fun ρ => r.d sc ρ a) ρ)
    | none => stepE0 C r sc ρ e
def plainTest : Expr → Bool
  | .UnaryOp .Not _ _ => false
  | .BoolOp .. => false
  | .IfExp .. => false
  | .Compare .. => false
  | _ => true
theorem plainTest_ok {e : Expr} (h : plainTest e = true) (env : Env) (whole : Sem Value) : isTrue e env whole = (do let v ← whole; standAt e.pos; holding [v] (truthy v)) := by
  cases e <;> first | rfl | (simp [plainTest] at h; done) | skip
  rename_i op a pp
  cases op <;> first | rfl | (simp [plainTest] at h)
def stepT (C : Cf) (r : Evs) (sc : Scope) (ρ : Rho) : Expr → Option (Bool × Rho)
  | .UnaryOp .Not a _ => notTE (fun ρ => r.t sc ρ a) ρ
  | .BoolOp op es _ => boolTE op (r.t sc) es ρ
  | .Compare a [op] [b] _ => cmpE op b (fun ρ => r.d sc ρ a) (fun ρ => r.d sc ρ b) ρ
  | .Compare a [op, op'] [b, c] _ => chainE op op' b c (fun ρ => r.d sc ρ a) (fun ρ => r.d sc ρ b) (fun ρ => r.d sc ρ c) ρ
  | e => if plainTest e then truE (fun ρ => r.d sc ρ e) ρ else none
def evs (C : Cf) : Nat → Evs
  | 0 => ⟨fun _ _ _ => none, fun _ _ _ => none⟩
  | n + 1 => ⟨stepE C (evs C n), stepT C (evs C n)⟩

def Sound (C : Cf) (k : Nat) (r : Evs) : Prop := ∀ (sc : Scope) (X : L2.Cx), COk C sc k X → (∀ e, PE X e (tS (Cx.G X) fun ρ => r.e sc ρ e)) ∧ (∀ e, PT X e (tT (Cx.G X) fun ρ => r.t sc ρ e))
section
variable {X : L2.Cx} {C : Cf} {sc : Scope} {k : Nat}
theorem Sound.d {r : Evs} (S : Sound C k r) (K : COk C sc k X) : ∀ e, PE X e (tD (Cx.G X) fun ρ => r.d sc ρ e) := fun e => tD_of ((S sc X K).1 e)
theorem imE_eq {o : Option (D × Rho)} {s : Sl} {ρ : Rho} (h : imE o = some (s, ρ)) : ∃ d, o = some (d, ρ) ∧ s = .im d := by
  unfold imE at h
  cases o with
  | none => cases h
  | some p =>
    simp only [Option.map_some, Option.some.injEq, Prod.mk.injEq] at h
    exact ⟨p.1, by rw [← h.2], h.1.symm⟩
theorem of_D {e : Expr} {ev : Rho → Option (D × Rho)} (h : PE X e (tD (Cx.G X) ev)) {σ : St} {H H0 : Hp} {Q : VK} {ρ ρ' : Rho} {s : Sl} (hev : imE (ev ρ) = some (s, ρ')) (E : REnv (Cx.G X) ρ σ H0 H)
    (q : ∀ v H' H0', Tr ρ σ H0 H ρ' σ H0' H' → REnv (Cx.G X) ρ' σ H0' H' → RSl (Cx.G X) ρ σ H ρ' H0' H' s v → Q v H') : ∃ t', PE X e t' ∧ t' σ H Q := by
  obtain ⟨d, h1, rfl⟩ := imE_eq hev
  exact ⟨_, h, ρ, d, ρ', H0, h1, E, fun v H' H0' T E' r => q v H' H0' T E' (rsl_im r)⟩
theorem call_ok {r : Evs} (S : Sound C k r) (K : COk C sc k X) {f : Str} {es : List Expr} {pf pc : Pos} {ρ ρ' : Rho} {σ : St} {H H0 : Hp} {Q : VK} {s : Sl} (hev : callE C r sc ρ f es = some (s, ρ')) (E : REnv (Cx.G X) ρ σ H0 H)
    (q : ∀ v H' H0', Tr ρ σ H0 H ρ' σ H0' H' → REnv (Cx.G X) ρ' σ H0' H' → RSl (Cx.G X) ρ σ H ρ' H0' H' s v → Q v H') : ∃ t', PE X (.Call (.Name f pf) es [] pc) t' ∧ t' σ H Q := by
  have hd := S.d K
  obtain ⟨he, ht⟩ := S sc X K
  unfold callE at hev
  split at hev
  · rename_i q' hq'
    cases hev
    unfold lenE' at hq'
    split at hq'
    · split at hq'
      · rename_i hf
        obtain ⟨rfl, hg⟩ := hf
        split at hq'
        · rename_i i hi
          exact ⟨_, pe_lenO K hi hg, ρ, q'.1, q'.2, H0, hq', E, fun v H' H0' T E' r => q v H' H0' T E' (rsl_im r)⟩
        · cases hq'
      · cases hq'
    · cases hq'
  · split at hev
    · rename_i q' hq'
      cases hev
      unfold isiE' at hq'
      split at hq'
      · split at hq'
        · rename_i hf
          obtain ⟨rfl, hg, hgx, hpx, hns⟩ := hf
          split at hq'
          · rename_i T hT
            exact ⟨_, pe_isiD K hT hgx hpx hg hns (hd _), ρ, q'.1, q'.2, H0, hq', E, fun v H' H0' T E' r => q v H' H0' T E' (rsl_im r)⟩
          · cases hq'
        · cases hq'
      · cases hq'
    · split at hev
      · rename_i hst
        obtain ⟨hst, hne⟩ := hst
        cases es with
        | nil => exact absurd rfl hne
        | cons e0 es =>
          split at hev
          · rename_i i hi
            exact ⟨_, pe_fnS K hi hst (ev := r.e sc) he, ρ, s, ρ', H0, hev, E, q⟩
          · split at hev
            · rename_i hgf
              split at hev
              · rename_i v hv
                exact ⟨_, pe_bltS K hv hgf.1 hgf.2 hst (pa_of hd (e0 :: es)), ρ, s, ρ', H0, hev, E, q⟩
              · split at hev
                · rename_i fn hfn
                  exact ⟨_, pe_userS K hfn hgf.1 hgf.2 hst (ev := r.e sc) he, ρ, s, ρ', H0, hev, E, q⟩
                · cases hev
            · cases hev
      · cases hev
theorem step_ok {r : Evs} (S : Sound C k r) : Sound C k ⟨stepE C r, stepT C r⟩ := fun sc X K => by
  have hd := S.d K
  obtain ⟨he, ht⟩ := S sc X K
  refine ⟨fun e => PE.of fun σ H Q q => ?_, fun e => PT.of fun σ H Q q => ?_⟩
  · obtain ⟨ρ, s, ρ', H0, hev, E, q⟩ := q
    dsimp only at hev
    unfold stepE at hev
    cases hq : hkE C r sc ρ e with
    | some q1 =>
      rw [hq] at hev
      cases hev
      unfold hkE at hq
      cases hon : C.tt.on sc with
      | false => rw [hon] at hq; cases hq
      | true =>
        rw [hon] at hq
        dsimp only [cond] at hq
        cases hh : C.tt.hk with
        | none => rw [hh] at hq; cases hq
        | some h =>
          rw [hh] at hq
          exact ⟨_, K.hk h hh hon r he ht e, ρ, s, ρ', H0, hq, E, q⟩
    | none =>
    rw [hq] at hev
    dsimp only at hev
    cases hr : repA C sc e with
    | some a =>
      rw [hr] at hev
      unfold repA at hr
      cases hrp : C.tt.rp with
      | false => rw [hrp] at hr; cases hr
      | true =>
        rw [hrp] at hr
        dsimp only [cond] at hr
        split at hr
        · split at hr
          · rename_i hc
            obtain ⟨rfl, hg, hs⟩ := hc
            cases hr
            exact of_D (pe_repr K hrp hg hs (hd a)) hev E q
          · cases hr
        · cases hr
    | none =>
    rw [hr] at hev
    dsimp only at hev
    clear hq hr
    unfold stepE0 at hev
    split at hev
    · exact of_D (pe_constD _ _) hev E q
    · exact ⟨_, pe_name K.toCOkB _, ρ, s, ρ', H0, hev, E, q⟩
    · exact of_D (pe_tupD (pa_of hd _)) hev E q
    · split at hev
      · rename_i hn
        exact ⟨_, pe_starS (hd _) (hd _) hn, ρ, s, ρ', H0, hev, E, q⟩
      · cases hev
    · exact ⟨_, pe_lstD (pa_of hd _), ρ, s, ρ', H0, hev, E, q⟩
    · exact ⟨_, pe_binS (hd _) (hd _), ρ, s, ρ', H0, hev, E, q⟩
    · exact of_D (pe_notD (hd _)) hev E q
    · exact of_D (pe_negD (hd _)) hev E q
    · exact of_D (pe_boolD hd _) hev E q
    · exact of_D (pe_cmpD K.room.units (hd _) (hd _)) hev E q
    · exact of_D (pe_chainD K.room.units (hd _) (hd _) (hd _)) hev E q
    · exact ⟨_, pe_ifS (ht _) (he _) (he _), ρ, s, ρ', H0, hev, E, q⟩
    · exact ⟨_, pe_slcS hd, ρ, s, ρ', H0, hev, E, q⟩
    · exact of_D (pe_backD (hd _) (hd _)) hev E q
    · rename_i a b pos hb hb2
      obtain ⟨d, h1, rfl⟩ := imE_eq hev
      unfold subE at h1
      split at h1
      · cases h1
      · rename_i hns
        have hns' : notSlice b = true := by
          cases hh : notSlice b with
          | true => rfl
          | false => exact absurd hh hns
        have gen : ∀ {h2 : ixE (fun ρ => r.d sc ρ a) (fun ρ => r.d sc ρ b) ρ = some (d, ρ')}, ∃ t', PE X (.Subscript a b pos) t' ∧ t' σ H Q := fun {h2} =>
          ⟨_, pe_ixD hns' (hd a) (hd b), ρ, d, ρ', H0, h2, E, fun v H' H0' T E' r => q v H' H0' T E' (rsl_im r)⟩
        split at h1
        · split at h1
          · rename_i i hi
            split at h1
            · rename_i q' hq'
              cases h1
              exact ⟨_, pe_ixO K hi hns' (hd b), ρ, d, ρ', H0, hq', E, fun v H' H0' T E' r => q v H' H0' T E' (rsl_im r)⟩
            · exact gen (h2 := h1)
          · exact gen (h2 := h1)
        · exact gen (h2 := h1)
    · rename_i f pf elt tg iter ifs scope ps pc
      split at hev
      · rename_i hf
        obtain ⟨rfl, hg⟩ := hf
        exact ⟨_, pe_sortSet K hd (fun X' K' eG e => by rw [← eG]; exact S.d K' e) (fun X' K' eG e => by rw [← eG]; exact (S _ X' K').2 e) hg, ρ, s, ρ', H0, hev, E, q⟩
      · cases hev
    · rename_i f pf g pg a pa pc
      split at hev
      · rename_i hf
        obtain ⟨rfl, rfl, h1, h2, h3⟩ := hf
        obtain ⟨d, h4, rfl⟩ := imE_eq hev
        exact ⟨_, pe_tupRgS K (hd a) h3 h1 h2, ρ, d, ρ', H0, h4, E, fun v H' H0' T E' r => q v H' H0' T E' (rsl_im r)⟩
      · split at hev
        · rename_i hf
          obtain ⟨rfl, rfl, h1, h2, h3⟩ := hf
          exact ⟨_, pe_setLS K (hd a) h3 h1 h2, ρ, s, ρ', H0, hev, E, q⟩
        · exact call_ok S K hev E q
    · split at hev
      · rename_i hc
        unfold tupC at hc
        simp only [Bool.and_eq_true, decide_eq_true_eq] at hc
        obtain ⟨⟨_, rfl⟩, hg⟩ := hc
        exact ⟨_, pe_tupNS K (hd _) rfl hg, ρ, s, ρ', H0, hev, E, q⟩
      · exact call_ok S K hev E q
    · obtain ⟨d, h1, rfl⟩ := imE_eq hev
      unfold cntS at h1
      split at h1
      · rename_i hc
        obtain ⟨rfl, hl, hst⟩ := hc
        split at h1
        · rename_i i hi
          exact ⟨_, pe_cntD K hi (hd _) hst hl, ρ, d, ρ', H0, h1, E, fun v H' H0' T E' r => q v H' H0' T E' (rsl_im r)⟩
        · cases h1
      · cases h1
    · exact call_ok S K hev E q
    · exact ⟨_, pe_compS K hd (fun X' K' eG e => by rw [← eG]; exact S.d K' e) (fun X' K' eG e => by rw [← eG]; exact (S _ X' K').2 e), ρ, s, ρ', H0, hev, E, q⟩
    · exact ⟨_, pe_comp2 K hd (fun X' K' eG e => by rw [← eG]; exact S.d K' e), ρ, s, ρ', H0, hev, E, q⟩
    · cases hev
  · obtain ⟨ρ, s, ρ', H0, hev, E, q⟩ := q
    dsimp only at hev
    unfold stepT at hev
    split at hev
    · exact ⟨_, pt_notE (ht _), ρ, s, ρ', H0, hev, E, q⟩
    · exact ⟨_, (pw_boolE ht _).pt, ρ, s, ρ', H0, hev, E, q⟩
    · exact ⟨_, pt_cmpD K.room.units (hd _) (hd _), ρ, s, ρ', H0, hev, E, q⟩
    · exact ⟨_, pt_chainD K.room.units (hd _) (hd _) (hd _), ρ, s, ρ', H0, hev, E, q⟩
    · split at hev
      · rename_i hp
        exact ⟨_, pt_truE (hd _) (fun whole => plainTest_ok hp _ _), ρ, s, ρ', H0, hev, E, q⟩
      · cases hev
theorem evs_ok : ∀ n, Sound C k (evs C n)
  | 0 => fun sc X K => by
    refine ⟨fun e => PE.of fun σ H Q q => ?_, fun e => PT.of fun σ H Q q => ?_⟩
    · obtain ⟨ρ, s, ρ', H0, hev, _⟩ := q; cases hev
    · obtain ⟨ρ, s, ρ', H0, hev, _⟩ := q; cases hev
  | n + 1 => step_ok (evs_ok n)
end
end Dv

set_option Elab.async false
set_option linter.all false
set_option maxRecDepth 100000
set_option maxHeartbeats 4000000
namespace Dv
open PySem L2 RZ
variable [TabC]

inductive Fl where
  | nx (ρ : Rho) | rt (s : Sl) (ρ : Rho) | bk (ρ : Rho) | ct (ρ : Rho)
/-- a value that is handed back -/
def RtOk (G : Ctx) (ρ : Rho) (σ : St) (H : Hp) (ρ' : Rho) (σ' : St) (H0' H' : Hp) : Sl → V → Prop
  | .im d, v => Rep G H0' d v
  | .ow xs, v => ∃ a vs, v = .ref a ∧ H' a = some (.lst vs) ∧ H0' a = none ∧ Reps G H0' xs vs ∧ ¬ Own ρ' σ' a ∧ (Own ρ σ a ∨ Nn H a)
  | .tt ds, v => ∃ a, v = .ref a ∧ TupN G H0' a ds
  | _, _ => False
def FlP (G : Ctx) (ok : Nat → Bool) (ρ : Rho) (σ : St) (H0 H : Hp) (Dn : Ends) : Fl → Prop
  | .nx ρ' => ∀ σ' H' H0', Tr ρ σ H0 H ρ' σ' H0' H' → REnv G ρ' σ' H0' H' → Kpt ok σ σ' → Dn.nx σ' H'
  | .bk ρ' => ∀ σ' H' H0', Tr ρ σ H0 H ρ' σ' H0' H' → REnv G ρ' σ' H0' H' → Kpt ok σ σ' → Dn.bk σ' H'
  | .ct ρ' => ∀ σ' H' H0', Tr ρ σ H0 H ρ' σ' H0' H' → REnv G ρ' σ' H0' H' → Kpt ok σ σ' → Dn.ct σ' H'
  | .rt s ρ' => ∀ v σ' H' H0', Tr ρ σ H0 H ρ' σ' H0' H' → REnv G ρ' σ' H0' H' → Kpt ok σ σ' → RtOk G ρ σ H ρ' σ' H0' H' s v → Dn.rt v H'
def tF (G : Ctx) (ok : Nat → Bool) (f : Rho → Option Fl) : TS := fun Dn σ H => ∃ ρ fl H0, f ρ = some fl ∧ REnv G ρ σ H0 H ∧ FlP G ok ρ σ H0 H Dn fl
theorem RtOk.via {G : Ctx} {ρ ρ1 ρ2 : Rho} {σ σ1 σ2 : St} {H0 H H01 H1 H02 H2 : Hp} {s : Sl} {v : V} (T : Tr ρ σ H0 H ρ1 σ1 H01 H1) (r : RtOk G ρ1 σ1 H1 ρ2 σ2 H02 H2 s v) : RtOk G ρ σ H ρ2 σ2 H02 H2 s v := by
  cases s with
  | im d => exact r
  | fn x => exact r
  | fz x => exact r
  | tt x => exact r
  | ow xs =>
    obtain ⟨a, ws, e1, h1, h2, h3, h4, h5⟩ := r
    refine ⟨a, ws, e1, h1, h2, h3, h4, ?_⟩
    rcases h5 with z | z
    · exact T.nw a z
    · exact .inr (T.kp a z)
theorem FlP.via {G : Ctx} {ok : Nat → Bool} {ρ ρ1 : Rho} {σ σ1 : St} {H0 H H01 H1 : Hp} {Dn : Ends} {fl : Fl} (T : Tr ρ σ H0 H ρ1 σ1 H01 H1) (k : Kpt ok σ σ1) (p : FlP G ok ρ σ H0 H Dn fl) : FlP G ok ρ1 σ1 H01 H1 Dn fl := by
  cases fl with
  | nx ρ' => exact fun σ' H' H0' T' E' k' => p σ' H' H0' (T.trans T') E' (k.trans k')
  | bk ρ' => exact fun σ' H' H0' T' E' k' => p σ' H' H0' (T.trans T') E' (k.trans k')
  | ct ρ' => exact fun σ' H' H0' T' E' k' => p σ' H' H0' (T.trans T') E' (k.trans k')
  | rt s ρ' => exact fun v σ' H' H0' T' E' k' r => p v σ' H' H0' (T.trans T') E' (k.trans k') (r.via T)
theorem RSl.rt {G : Ctx} {ρ ρ' : Rho} {σ : St} {H H0' H' : Hp} {s : Sl} {v : V} (hs : (match s with | .im _ => true | .ow _ => true | .tt _ => true | _ => false) = true) (r : RSl G ρ σ H ρ' H0' H' s v) : RtOk G ρ σ H ρ' σ H0' H' s v := by
  cases s with
  | im d => exact r
  | fn x => cases hs
  | fz x => cases hs
  | tt x => exact r
  | ow xs => exact r
theorem RSl.keep {G : Ctx} {ρ ρ1 ρ2 : Rho} {σ : St} {H0 H H01 H1 H02 H2 : Hp} {s : Sl} {v : V} (r : RSl G ρ σ H ρ1 H01 H1 s v) (T : Tr ρ1 σ H01 H1 ρ2 σ H02 H2) : RSl G ρ σ H ρ2 H02 H2 s v := by
  cases s with
  | im d => exact Rep.ex T.ex r
  | fn x => exact r
  | fz x => exact r.imp fun a h => ⟨h.1, ex_l T.ex h.2⟩
  | tt x => exact r.imp fun a h => ⟨h.1, h.2.ex T.ex⟩
  | ow xs =>
    obtain ⟨a, ws, e1, h1, h2, h3, h4, h5⟩ := r
    obtain ⟨f1, f2⟩ := T.fr a _ h1 h2 h4
    refine ⟨a, ws, e1, f1, f2, h3.ex T.ex, fun o => ?_, h5⟩
    rcases T.nw a o with z | z
    · exact h4 z
    · exact z.not h1
theorem PS.of {X : L2.Cx} {e : Stmt} {t : TS} (h : ∀ D σ H, t D σ H → ∃ t' : TS, PS X e t' ∧ t' D σ H) : PS X e t := ⟨fun pins s σ H D I q => by
  obtain ⟨t', h1, h2⟩ := h D σ H q
  exact h1.run pins s σ H D I h2⟩
theorem PSs.of {X : L2.Cx} {e : List Stmt} {t : TS} (h : ∀ D σ H, t D σ H → ∃ t' : TS, PSs X e t' ∧ t' D σ H) : PSs X e t := ⟨fun pins s σ H D I q => by
  obtain ⟨t', h1, h2⟩ := h D σ H q
  exact h1.run pins s σ H D I h2⟩

/-- a block -/
def runL (f : Rho → Stmt → Option Fl) : List Stmt → Rho → Option Fl
  | [], ρ => some (.nx ρ)
  | s :: r, ρ => match f ρ s with
    | some (.nx ρ1) => runL f r ρ1
    | o => o
section
variable {X : L2.Cx} {G : Ctx} {ok : Nat → Bool}
theorem pss_run {f : Rho → Stmt → Option Fl} (h : ∀ s, PS X s (tF G ok fun ρ => f ρ s)) : ∀ l, PSs X l (tF G ok (runL f l))
  | [] => PSs.of fun D σ H q => by
    obtain ⟨ρ, fl, H0, hf, E, p⟩ := q
    cases hf
    exact ⟨_, pss_nil, p σ H H0 (Tr.refl _ _ _ _) E (Kpt.refl _ _)⟩
  | s :: r => PSs.of fun D σ H q => by
    obtain ⟨ρ, fl, H0, hf, E, p⟩ := q
    refine ⟨_, pss_cons (h s) (pss_run h r), ?_⟩
    unfold runL at hf
    cases hs : f ρ s with
    | none => rw [hs] at hf; cases hf
    | some fl1 =>
      rw [hs] at hf
      cases fl1 with
      | nx ρ1 => exact ⟨ρ, .nx ρ1, H0, hs, E, fun σ1 H1 H01 T1 E1 k1 => ⟨ρ1, fl, H01, hf, E1, p.via T1 k1⟩⟩
      | bk ρ1 => cases hf; exact ⟨ρ, .bk ρ1, H0, hs, E, p⟩
      | ct ρ1 => cases hf; exact ⟨ρ, .ct ρ1, H0, hs, E, p⟩
      | rt s1 ρ1 => cases hf; exact ⟨ρ, .rt s1 ρ1, H0, hs, E, p⟩
end

/-! ### for, while -/
def forE (f : D → Rho → Option Rho) (b : Rho → Option Fl) : List D → Rho → Option Fl
  | [], ρ => some (.nx ρ)
  | d :: ds, ρ => match f d ρ with
    | some ρ1 => match b ρ1 with
      | some (.nx ρ2) => forE f b ds ρ2
      | some (.ct ρ2) => forE f b ds ρ2
      | some (.bk ρ2) => some (.nx ρ2)
      | some (.rt s ρ2) => some (.rt s ρ2)
      | none => none
    | none => none
def whileE (t : Rho → Option (Bool × Rho)) (b : Rho → Option Fl) : Nat → Rho → Option Fl
  | 0, _ => none
  | n + 1, ρ => match t ρ with
    | some (true, ρ1) => match b ρ1 with
      | some (.nx ρ2) => whileE t b n ρ2
      | some (.ct ρ2) => whileE t b n ρ2
      | some (.bk ρ2) => some (.nx ρ2)
      | some (.rt s ρ2) => some (.rt s ρ2)
      | none => none
    | some (false, ρ1) => some (.nx ρ1)
    | none => none
section
variable {X : L2.Cx} {C : Cf} {sc : Scope} {k : Nat} {ok : Nat → Bool} {pos : Pos}
theorem ps_forF (hp : PassesOwn (model X.prog X.w) X.A X.env X.xe) (hc : X.calm = true) {tg iter : Expr} {body : List Stmt} {it : Rho → Option (List D × Rho)} {f : D → Rho → Option Rho} {b : Rho → Option Fl}
    (hi : PI X tg iter (tI (Cx.G X) it)) (hg : PG X tg (tG (Cx.G X) ok f)) (hb : PSs X body (tF (Cx.G X) ok b)) (hns : notSet iter = true) :
    PS X (.For tg iter body [] pos) (tF (Cx.G X) ok fun ρ => match it ρ with | some (its, ρ1) => forE f b its ρ1 | none => none) := PS.of fun Dn σ H q => by
  refine ⟨_, ps_for hp hc hi hg hb (by intro x; cases iter <;> first | rfl | (simp [notSet] at hns)), ?_⟩
  obtain ⟨ρ, fl, H0, hf, E, p⟩ := q
  dsimp only at hf
  split at hf
  · rename_i its ρ1 h1
    refine ⟨ρ, its, ρ1, H0, h1, E, fun J H1 H01 T1 E1 IO => ?_⟩
    refine ⟨fun i m σ' H' => m = its.length - i ∧ i ≤ its.length ∧ ∃ ρi H0i, forE f b (its.drop i) ρi = some fl ∧ REnv (Cx.G X) ρi σ' H0i H' ∧ Tr ρ1 σ H01 H1 ρi σ' H0i H' ∧ Kpt ok σ σ',
      ⟨its.length, by simp, Nat.zero_le _, ρ1, H01, by simpa using hf, E1, Tr.refl _ _ _ _, Kpt.refl _ _⟩, ?_⟩
    rintro i m σ' H' ⟨rfl, hi', ρi, H0i, hl, Ei, Ti, ki⟩
    have pi := (p.via T1 (Kpt.refl _ _)).via Ti ki
    by_cases hlt : i < its.length
    · refine .inr ⟨IO.go i H' (Ti.ex.trans Ei.ex) hlt, fun σ2 H2 => i + 1 ≤ its.length ∧ ∃ ρi H0i, forE f b (its.drop (i + 1)) ρi = some fl ∧ REnv (Cx.G X) ρi σ2 H0i H2 ∧ Tr ρ1 σ H01 H1 ρi σ2 H0i H2 ∧ Kpt ok σ σ2,
        fun σ2 H2 h => ⟨its.length - (i + 1), by omega, rfl, h⟩, fun x H2 hy => ?_⟩
      obtain ⟨d, hd, hx⟩ := IO.yld i H' x H2 (Ti.ex.trans Ei.ex) hlt hy
      have hdrop : its.drop i = d :: its.drop (i + 1) := by
        have := List.drop_eq_getElem_cons hlt
        rw [this]
        congr 1
        have z := List.getElem?_eq_getElem hlt
        rw [hd] at z
        exact (Option.some.inj z).symm
      rw [hdrop] at hl
      simp only [forE] at hl
      have base : ∃ H02, REnv (Cx.G X) ρi σ' H02 H2 ∧ Tr ρi σ' H0i H' ρi σ' H02 H2 ∧ Rep (Cx.G X) H02 d x := by
        rcases hx with ⟨rfl, hr⟩ | ⟨p, po, pv, hp, rfl, hr⟩
        · exact ⟨H0i, Ei, Tr.refl _ _ _ _, hr.ex Ti.ex⟩
        · have hp0 := Ei.ex.back hp
          refine ⟨_, Ei.newI hp, Tr.newI hp hp0, hr.ex (fun a o e => ?_)⟩
          by_cases ha : a = p
          · subst ha; rw [upd_same] at e ⊢; exact e
          · rw [upd_ne ha] at e ⊢; exact Ti.ex _ _ e
      obtain ⟨H02, E2, T2, r2⟩ := base
      split at hl
      · rename_i ρa hfa
        refine ⟨ρi, d, ρa, H02, hfa, E2, r2, fun σ3 H3 H03 T3 E3 k3 => ?_⟩
        have T23 := T2.trans T3
        have p3 := pi.via T23 k3
        have nxt : ∀ ρb, forE f b (its.drop (i + 1)) ρb = some fl → ∀ σ4 H4 H04, Tr ρa σ3 H03 H3 ρb σ4 H04 H4 → REnv (Cx.G X) ρb σ4 H04 H4 → Kpt ok σ3 σ4 → i + 1 ≤ its.length ∧ ∃ ρi H0i, forE f b (its.drop (i + 1)) ρi = some fl ∧ REnv (Cx.G X) ρi σ4 H0i H4 ∧ Tr ρ1 σ H01 H1 ρi σ4 H0i H4 ∧ Kpt ok σ σ4 :=
          fun ρb hb' σ4 H4 H04 T4 E4 k4 => ⟨hlt, ρb, H04, hb', E4, (Ti.trans T23).trans T4, (ki.trans k3).trans k4⟩
        split at hl
        · rename_i ρb hbb
          exact ⟨ρa, .nx ρb, H03, hbb, E3, nxt ρb hl⟩
        · rename_i ρb hbb
          exact ⟨ρa, .ct ρb, H03, hbb, E3, nxt ρb hl⟩
        · rename_i ρb hbb
          cases hl
          exact ⟨ρa, .bk ρb, H03, hbb, E3, p3⟩
        · rename_i s ρb hbb
          cases hl
          exact ⟨ρa, .rt s ρb, H03, hbb, E3, p3⟩
        · cases hl
      · cases hl
    · refine .inl ⟨IO.stop i H' (Ti.ex.trans Ei.ex) (by omega), ?_⟩
      have hdrop : its.drop i = [] := List.drop_eq_nil_of_le (by omega)
      rw [hdrop] at hl
      simp only [forE, Option.some.injEq] at hl
      subst hl
      exact pi σ' H' H0i (Tr.refl _ _ _ _) Ei (Kpt.refl _ _)
  · cases hf
theorem ps_whileF (hp : PassesOwn (model X.prog X.w) X.A X.env X.xe) {c : Expr} {body : List Stmt} {t : Rho → Option (Bool × Rho)} {b : Rho → Option Fl} {n : Nat}
    (hc : PT X c (tT (Cx.G X) t)) (hb : PSs X body (tF (Cx.G X) ok b)) : PS X (.While c body [] pos) (tF (Cx.G X) ok (whileE t b n)) := PS.of fun Dn σ H q => by
  refine ⟨_, ps_while hp hc hb, ?_⟩
  obtain ⟨ρ, fl, H0, hf, E, p⟩ := q
  refine ⟨fun m σ' H' => ∃ ρi H0i, whileE t b m ρi = some fl ∧ REnv (Cx.G X) ρi σ' H0i H' ∧ Tr ρ σ H0 H ρi σ' H0i H' ∧ Kpt ok σ σ', ⟨n, ρ, H0, hf, E, Tr.refl _ _ _ _, Kpt.refl _ _⟩, ?_⟩
  rintro m σ' H' ⟨ρi, H0i, hl, Ei, Ti, ki⟩
  have pi := p.via Ti ki
  cases m with
  | zero => cases hl
  | succ m =>
    simp only [whileE] at hl
    split at hl
    · rename_i ρ1 ht
      refine ⟨ρi, true, ρ1, H0i, ht, Ei, fun H1 H01 T1 E1 => ?_⟩
      dsimp only
      rw [if_pos rfl]
      have p1 := pi.via T1 (Kpt.refl _ _)
      refine ⟨fun σ2 H2 => ∃ ρi H0i, whileE t b m ρi = some fl ∧ REnv (Cx.G X) ρi σ2 H0i H2 ∧ Tr ρ σ H0 H ρi σ2 H0i H2 ∧ Kpt ok σ σ2, fun σ2 H2 h => ⟨m, Nat.lt_succ_self m, h⟩, ?_⟩
      have nxt : ∀ ρb, whileE t b m ρb = some fl → ∀ σ4 H4 H04, Tr ρ1 σ' H01 H1 ρb σ4 H04 H4 → REnv (Cx.G X) ρb σ4 H04 H4 → Kpt ok σ' σ4 → ∃ ρi H0i, whileE t b m ρi = some fl ∧ REnv (Cx.G X) ρi σ4 H0i H4 ∧ Tr ρ σ H0 H ρi σ4 H0i H4 ∧ Kpt ok σ σ4 :=
        fun ρb hb' σ4 H4 H04 T4 E4 k4 => ⟨ρb, H04, hb', E4, (Ti.trans T1).trans T4, ki.trans k4⟩
      split at hl
      · rename_i ρb hbb
        exact ⟨ρ1, .nx ρb, H01, hbb, E1, nxt ρb hl⟩
      · rename_i ρb hbb
        exact ⟨ρ1, .ct ρb, H01, hbb, E1, nxt ρb hl⟩
      · rename_i ρb hbb
        cases hl
        exact ⟨ρ1, .bk ρb, H01, hbb, E1, p1⟩
      · rename_i s ρb hbb
        cases hl
        exact ⟨ρ1, .rt s ρb, H01, hbb, E1, p1⟩
      · cases hl
    · rename_i ρ1 ht
      cases hl
      refine ⟨ρi, false, ρ1, H0i, ht, Ei, fun H1 H01 T1 E1 => ?_⟩
      dsimp only
      rw [if_neg Bool.false_ne_true]
      exact pi _ _ _ T1 E1 (Kpt.refl _ _)
    · cases hl
end
end Dv

set_option Elab.async false
set_option linter.all false
set_option maxRecDepth 100000
set_option maxHeartbeats 4000000
namespace Dv
open PySem L2 RZ
variable [TabC]

/-- as RSl, the base told by a frame of its own -/
def RSw (G : Ctx) (ρ : Rho) (σ0 : St) (H : Hp) (ρ' : Rho) (σ : St) (H0' H' : Hp) : Sl → V → Prop
  | .im d, v => Rep G H0' d v
  | .fn x, v => ∃ a, v = .ref a ∧ G.2 x = some (.ref a)
  | .fz ns, v => ∃ a, v = .ref a ∧ SqL G.1 H0' a (ns.map V.int)
  | .tt ds, v => ∃ a, v = .ref a ∧ TupN G H0' a ds
  | .ow xs, v => ∃ a vs, v = .ref a ∧ H' a = some (.lst vs) ∧ H0' a = none ∧ Reps G H0' xs vs ∧ ¬ Own ρ' σ a ∧ (Own ρ σ0 a ∨ Nn H a)
section
variable {G : Ctx} {ρ ρ' : Rho} {σ σ' : St} {H0 H H0' H' : Hp}
theorem REnv.store2 {σ0 : St} (E : REnv G ρ' σ H0' H') (T : Tr ρ σ0 H0 H ρ' σ H0' H') {i : Nat} {s : Sl} {v : V} (hi : i < ρ'.length) (r : RSw G ρ σ0 H ρ' σ H0' H' s v) :
    REnv G (ρ'.set i (some s)) (σ.set i (some v)) H0' H' ∧ Tr ρ σ0 H0 H (ρ'.set i (some s)) (σ.set i (some v)) H0' H' := by
  have his : i < σ.length := by rw [← E.len]; exact hi
  have back : ∀ a, Own (ρ'.set i (some s)) (σ.set i (some v)) a → Own ρ' σ a ∨ (∃ xs, s = .ow xs ∧ v = .ref a) := fun a ⟨j, xs, e1, e2⟩ => by
    by_cases hj : i = j
    · subst hj
      rw [List.getElem?_set_self hi] at e1
      rw [List.getElem?_set_self his] at e2
      cases e1; cases e2
      exact .inr ⟨xs, rfl, rfl⟩
    · rw [List.getElem?_set_ne hj] at e1 e2
      exact .inl ⟨j, xs, e1, e2⟩
  refine ⟨⟨E.tb, E.ex, by simp [E.len], fun j d q => ?_, fun j d q => ?_, fun j d q => ?_, fun j d q => ?_, fun j ys q => ?_, fun j k ys zs b q1 q2 q3 q4 => ?_⟩, ⟨T.ex, T.fr', fun a h => ?_, T.kp⟩⟩
  · by_cases hj : i = j
    · subst hj
      rw [List.getElem?_set_self hi] at q
      cases q
      exact ⟨v, List.getElem?_set_self his, r⟩
    · rw [List.getElem?_set_ne hj] at q ⊢
      exact E.im j d q
  · by_cases hj : i = j
    · subst hj
      rw [List.getElem?_set_self hi] at q
      cases q
      obtain ⟨a, rfl, h⟩ := r
      exact ⟨a, List.getElem?_set_self his, h⟩
    · rw [List.getElem?_set_ne hj] at q ⊢
      exact E.fn j d q
  · by_cases hj : i = j
    · subst hj
      rw [List.getElem?_set_self hi] at q
      cases q
      obtain ⟨a, rfl, h⟩ := r
      exact ⟨a, List.getElem?_set_self his, h⟩
    · rw [List.getElem?_set_ne hj] at q ⊢
      exact E.fz j d q
  · by_cases hj : i = j
    · subst hj
      rw [List.getElem?_set_self hi] at q
      cases q
      obtain ⟨a, rfl, h⟩ := r
      exact ⟨a, List.getElem?_set_self his, h⟩
    · rw [List.getElem?_set_ne hj] at q ⊢
      exact E.tt j d q
  · by_cases hj : i = j
    · subst hj
      rw [List.getElem?_set_self hi] at q
      cases q
      obtain ⟨a, vs, rfl, h1, h2, h3, _⟩ := r
      exact ⟨a, vs, List.getElem?_set_self his, h1, h2, h3⟩
    · rw [List.getElem?_set_ne hj] at q ⊢
      exact E.ow j ys q
  · by_cases hj : i = j
    · by_cases hk : i = k
      · exact hj.symm.trans hk
      · subst hj
        rw [List.getElem?_set_self hi] at q1
        rw [List.getElem?_set_self his] at q3
        rw [List.getElem?_set_ne hk] at q2 q4
        cases q1; cases q3
        obtain ⟨a, vs, e, h1, h2, h3, h4, _⟩ := r
        cases e
        exact absurd ⟨k, zs, q2, q4⟩ h4
    · by_cases hk : i = k
      · subst hk
        rw [List.getElem?_set_self hi] at q2
        rw [List.getElem?_set_self his] at q4
        rw [List.getElem?_set_ne hj] at q1 q3
        cases q2; cases q4
        obtain ⟨a, vs, e, h1, h2, h3, h4, _⟩ := r
        cases e
        exact absurd ⟨j, ys, q1, q3⟩ h4
      · rw [List.getElem?_set_ne hj] at q1 q3
        rw [List.getElem?_set_ne hk] at q2 q4
        exact E.ap j k ys zs b q1 q2 q3 q4
  · rcases back a h with z | ⟨xs, e1, e2⟩
    · exact T.nw a z
    · subst e1
      obtain ⟨b, vs, e, _, _, _, _, c⟩ := r
      rw [e2] at e; cases e
      exact c

theorem REnv.store3 {ρ2 : Rho} {H02 H2 : Hp} (E : REnv G ρ2 σ H02 H2) (T : Tr ρ σ H0 H ρ2 σ H02 H2) {i j : Nat} (hij : i ≠ j) {s1 s2 : Sl} {v1 v2 : V} (hi : i < ρ2.length) (hj : j < ρ2.length)
    (r1 : RSl G ρ σ H ρ2 H02 H2 s1 v1) (r2 : RSl G ρ σ H ρ2 H02 H2 s2 v2) (ne : ∀ a xs ys, s1 = .ow xs → s2 = .ow ys → v1 = .ref a → v2 ≠ .ref a) :
    REnv G ((ρ2.set i (some s1)).set j (some s2)) ((σ.set i (some v1)).set j (some v2)) H02 H2 ∧ Tr ρ σ H0 H ((ρ2.set i (some s1)).set j (some s2)) ((σ.set i (some v1)).set j (some v2)) H02 H2 := by
  obtain ⟨E3, T3⟩ := E.store T hi r1
  refine E3.store2 T3 (by rw [List.length_set]; exact hj) ?_
  cases s2 with
  | im d => exact r2
  | fn d => exact r2
  | fz d => exact r2
  | tt d => exact r2
  | ow xs =>
    obtain ⟨a, vs, e, h1, h2, h3, h4, h5⟩ := r2
    refine ⟨a, vs, e, h1, h2, h3, fun ⟨k, ys, e1, e2⟩ => ?_, h5⟩
    by_cases hk : i = k
    · subst hk
      rw [List.getElem?_set_self hi] at e1
      rw [List.getElem?_set_self (by rw [← E.len]; exact hi)] at e2
      cases e1; cases e2
      exact ne a ys xs rfl rfl rfl e
    · rw [List.getElem?_set_ne hk] at e1 e2
      exact h4 ⟨k, ys, e1, e2⟩
end
end Dv

set_option Elab.async false
set_option linter.all false
set_option maxRecDepth 100000
set_option maxHeartbeats 4000000
namespace Dv
open PySem L2 RZ
variable [TabC]

/-! ### where a value is stored -/
def notComp : Expr → Bool
  | .ListComp .. => false | .SetComp .. => false | .DictComp .. => false | _ => true
theorem sw_no {e : Expr} (h : notComp e = true) (t : Option Expr) (l : Nat) (env : Env) : swapsWith e t l env = pure false := by
  cases e <;> first | rfl | (simp [notComp] at h)
theorem sw_sole {e : Expr} (h : notComp e = true) (t : Expr) (l : Nat) (env : Env) : swapsWithSole [t] e l env = pure false := sw_no h _ l env
def swB (sc : Scope) (scope : Scope) (t : Str) (line line' : Nat) : Bool :=
  decide (sc.names.lookup t = some .local) && (line == line') && !(scope.names.any fun (n, k) => n == t && (k == .local || k == .cell))
theorem sw_list {sc : Scope} {env : Env} (hs : env.scope = sc) (hk : sc.kind = .function) {elt : Expr} {gs : List Comprehension} {scope : Scope} {lp py : Pos} {y : Str} {l : Nat} :
    swapsWith (.ListComp elt gs scope lp) (some (.Name y py)) l env = pure (swB sc scope y py.line lp.line) := by
  have hb : env.blockKind = .function := by unfold Env.blockKind; rw [hs, hk]; rfl
  unfold swapsWith swB
  simp only [hb, Expr.pos, Env.kindOf, hs]
  have e : (sc.names.lookup y == some NameKind.local) = decide (sc.names.lookup y = some .local) := by
    cases h : sc.names.lookup y with
    | none => rfl
    | some v => cases v <;> rfl
  rw [e]
  rfl
/-- no swapped stores -/
def plainAsg (tg value : Expr) : Bool := match tg, value with
  | .Tuple ts _ _, .Tuple vs _ _ => !(ts.length == 2 || ts.length == 3) || vs.all (foldedForSure 8)
  | .List .., _ => false
  | _, _ => true
theorem swapped_no {tg value : Expr} {env : Env} (h : plainAsg tg value = true) : swappedStores [tg] value env = pure none := by
  cases tg <;> try (first | rfl | (simp [plainAsg] at h; done))
  rename_i ts kt pt
  cases value <;> try rfl
  rename_i vs kv pv
  simp only [plainAsg, Bool.or_eq_true, Bool.not_eq_true'] at h
  unfold swappedStores
  rcases h with h | h
  · simp [h]
  · simp only [h]
    simp
theorem star_no {e : Expr} : notStar e = true → (match e with | .Starred .. => true | _ => false) = false := by
  intro h
  cases e <;> first | rfl | (simp [notStar] at h)
def par2C (sc : Scope) (x y : Str) (px py : Pos) (a b : Expr) : Bool :=
  decide (sc.names.lookup x = some .local) && decide (sc.names.lookup y = some .local) && !(x == y) && (px.line == py.line) && notStar a && notStar b && !([a, b].all (foldedForSure 8)) && !([a, b].all (constantsAlone 8))
theorem swapped2 {sc : Scope} {env : Env} (hs : env.scope = sc) (hk : sc.kind = .function) {x y : Str} {px py pt pt2 : Pos} {kt k2} {a b : Expr} (h : par2C sc x y px py a b = true) :
    swappedStores [.Tuple [.Name x px, .Name y py] kt pt] (.Tuple [a, b] k2 pt2) env = pure (some [x, y]) := by
  have hb : env.blockKind = .function := by unfold Env.blockKind; rw [hs, hk]; rfl
  simp only [par2C, Bool.and_eq_true, decide_eq_true_eq, Bool.not_eq_true', beq_eq_false_iff_ne, ne_eq, beq_iff_eq] at h
  obtain ⟨⟨⟨⟨⟨⟨⟨h1, h2⟩, h3⟩, h4⟩, h5⟩, h6⟩, h7⟩, h8⟩ := h
  have s1 := star_no h5
  have s2 := star_no h6
  unfold swappedStores
  simp [hb, Env.kindOf, hs, h1, h2, h4, h7, h8, Expr.pos, s1, s2, List.eraseDups_cons, h3, Ne.symm h3]
  rintro (h | h)
  · exact absurd (s1.symm.trans h) (by decide)
  · exact absurd (s2.symm.trans h) (by decide)
/-- two names of which not both are the frame's alone: nothing is swapped -/
def par2K (sc : Scope) (x y : Str) (a b : Expr) : Bool := (decide (sc.names.lookup x ≠ some .local) || decide (sc.names.lookup y ≠ some .local)) && locB mAll sc x && locB mAll sc y && notStar a && notStar b
theorem swappedK {sc : Scope} {env : Env} (hs : env.scope = sc) {x y : Str} {px py pt pt2 : Pos} {kt k2} {a b : Expr} (h : par2K sc x y a b = true) : swappedStores [.Tuple [.Name x px, .Name y py] kt pt] (.Tuple [a, b] k2 pt2) env = pure none := by
  simp only [par2K, Bool.and_eq_true, Bool.or_eq_true, decide_eq_true_eq] at h
  obtain ⟨⟨⟨⟨h1, _⟩, _⟩, h4⟩, h5⟩ := h
  have s1 := star_no h4
  have s2 := star_no h5
  unfold swappedStores
  by_cases hx : sc.names.lookup x = some .local
  · have hy : sc.names.lookup y ≠ some .local := h1.elim (fun z => absurd hx z) id
    simp only [Env.kindOf, hs, hx]
    have e : (sc.names.lookup y == some NameKind.local) = false := beq_eq_false_iff_ne.mpr hy
    simp [e]
    intro _ _ _ hl
    exfalso
    revert hl
    simp [List.filterMap_cons, hx, hy]
    split <;> simp
  · have e : (sc.names.lookup x == some NameKind.local) = false := beq_eq_false_iff_ne.mpr hx
    simp only [Env.kindOf, hs]
    simp [e]
    intro _ _ _ hl
    exfalso
    revert hl
    by_cases hy : sc.names.lookup y = some .local
    · simp [List.filterMap_cons, hx, hy]
      try (split <;> simp)
    · simp [List.filterMap_cons, hx, hy]
end Dv

set_option Elab.async false
set_option linter.all false
set_option maxRecDepth 100000
set_option maxHeartbeats 4000000
namespace Dv
open PySem L2 RZ
variable [TabC]

structure SOk (C : Cf) (sc : Scope) (k : Nat) (X : L2.Cx) : Prop where
  K : COk C sc k X
  fn : ∀ x, X.fn x = true
  kind : sc.kind = .function
  hp : PassesOwn (model X.prog X.w) X.A X.env X.xe

def retOf : Option (Sl × Rho) → Option Fl
  | some (.im d, ρ) => some (.rt (.im d) ρ)
  | some (.ow xs, ρ) => some (.rt (.ow xs) ρ)
  | some (.tt xs, ρ) => some (.rt (.tt xs) ρ)
  | _ => none
def nameS (C : Cf) (ok : Nat → Bool) (sc : Scope) (x : Str) : Option (Sl × Rho) → Option Fl
  | some (s, ρ) => (nameT C mAll ok sc x s ρ).map .nx
  | none => none
def asgS (f : D → Rho → Option Rho) : Option (D × Rho) → Option Fl
  | some (d, ρ) => (f d ρ).map .nx
  | none => none
def par2S (C : Cf) (ok : Nat → Bool) (sc : Scope) (ev : Rho → Expr → Option (Sl × Rho)) (x y : Str) (a b : Expr) (ρ : Rho) : Option Fl :=
  match ev ρ a with
  | some (s1, ρ1) => match ev ρ1 b with
    | some (s2, ρ2) => match idx x C.N, idx y C.N with
      | some i, some j => if i < ρ2.length ∧ j < ρ2.length ∧ ok i = true ∧ ok j = true ∧ i ≠ j then some (.nx ((ρ2.set i (some s1)).set j (some s2))) else none
      | _, _ => none
    | none => none
  | none => none
def augOp : Operator → Option (Int → Int → Int)
  | .Add => some fun i j => i + j
  | .Sub => some fun i j => i - j
  | _ => none
def augN (C : Cf) (ok : Nat → Bool) (sc : Scope) (ev : Rho → Option (D × Rho)) (x : Str) (op : Operator) (ρ : Rho) : Option Fl := match augOp op with
  | some f => if locB mAll sc x then match idx x C.N with
    | some i => match ρ[i]? with
      | some (some (.im (.int a))) => match ev ρ with
        | some (.int b, ρ1) => if i < ρ1.length ∧ ok i = true then some (.nx (ρ1.set i (some (.im (.int (f a b)))))) else none
        | _ => none
      | _ => none
    | none => none else none
  | none => none
def augX (C : Cf) (sc : Scope) (ev : Rho → Expr → Option (D × Rho)) (x : Str) (ie : Expr) (op : Operator) (e : Expr) (ρ : Rho) : Option Fl := match augOp op with
  | some f => if notSlice ie = false then none else match slotE C sc x with
    | some i => match ρ[i]? with
      | some (some (.ow _)) => match ev ρ ie with
        | some (.int z, ρ1) => match ρ1[i]? with
          | some (some (.ow xs)) => match ixN xs.length z with
            | some j => match xs[j]? with
              | some (.int a) => match ev ρ1 e with
                | some (.int b, ρ2) => match ρ2[i]? with
                  | some (some (.ow ys)) => if j < ys.length ∧ ys.length = xs.length then some (.nx (ρ2.set i (some (.ow (ys.set j (.int (f a b))))))) else none
                  | _ => none
                | _ => none
              | _ => none
            | none => none
          | _ => none
        | _ => none
      | _ => none
    | none => none
  | none => none
def appS (C : Cf) (sc : Scope) (ev : Rho → Option (D × Rho)) (x : Str) (ρ : Rho) : Option Fl := match slotE C sc x with
  | some i => match ρ[i]? with
    | some (some (.ow _)) => match ev ρ with
      | some (d, ρ1) => match ρ1[i]? with
        | some (some (.ow xs)) => if xs.length ≤ sline then some (.nx (ρ1.set i (some (.ow (xs ++ [d]))))) else none
        | _ => none
      | none => none
    | _ => none
  | none => none
def ifS (t : Option (Bool × Rho)) (a b : Rho → Option Fl) : Option Fl := match t with
  | some (true, ρ1) => a ρ1
  | some (false, ρ1) => b ρ1
  | none => none
theorem nameT_ix {C : Cf} {m : Str → Bool} {ok : Nat → Bool} {sc : Scope} {x : Str} {s : Sl} {ρ ρ' : Rho} (h : nameT C m ok sc x s ρ = some ρ') : ∃ i, idx x C.N = some i ∧ locB m sc x = true ∧ i < ρ.length ∧ ok i = true ∧ ρ' = ρ.set i (some s) := by
  unfold nameT at h
  split at h
  · rename_i hl
    split at h
    · rename_i i hi
      split at h
      · rename_i hlen
        cases h
        exact ⟨i, hi, hl, hlen.1, hlen.2, rfl⟩
      · cases h
    · cases h
  · cases h
theorem kpt_set {ok : Nat → Bool} {σ : St} {i : Nat} {v : Option V} (h : ok i = true) : Kpt ok σ (σ.set i v) := ⟨by simp, fun j hj => by
  have : i ≠ j := fun z => by rw [z, hj] at h; cases h
  rw [List.getElem?_set_ne this]⟩
section
variable {X : L2.Cx} {C : Cf} {sc : Scope} {k : Nat} {ok : Nat → Bool} {pos : Pos}
theorem map_nx {o : Option Rho} {fl : Fl} (h : o.map Fl.nx = some fl) : ∃ ρ', o = some ρ' ∧ fl = .nx ρ' := by
  cases o with
  | none => cases h
  | some r => exact ⟨r, rfl, (Option.some.inj h).symm⟩
theorem ps_retF {e : Expr} {ev : Rho → Option (Sl × Rho)} (he : PE X e (tS (Cx.G X) ev)) : PS X (.Return (some e) pos) (tF (Cx.G X) ok fun ρ => retOf (ev ρ)) := PS.of fun Dn σ H q => by
  refine ⟨_, ps_ret he, ?_⟩
  obtain ⟨ρ, fl, H0, hf, E, p⟩ := q
  dsimp only at hf
  cases h1 : ev ρ with
  | none => rw [h1] at hf; cases hf
  | some r =>
    obtain ⟨s, ρ1⟩ := r
    rw [h1] at hf
    refine ⟨ρ, s, ρ1, H0, h1, E, fun v H' H0' T E' r => ?_⟩
    cases s with
    | im d => cases hf; exact p v σ H' H0' T E' (Kpt.refl _ _) r
    | ow d => cases hf; exact p v σ H' H0' T E' (Kpt.refl _ _) r
    | fn d => cases hf
    | fz d => cases hf
    | tt d => cases hf; exact p v σ H' H0' T E' (Kpt.refl _ _) r
theorem ps_retNF : PS X (.Return none pos) (tF (Cx.G X) ok fun ρ => some (.rt (.im .none) ρ)) := PS.of fun Dn σ H q => by
  refine ⟨_, ps_retN, ?_⟩
  obtain ⟨ρ, fl, H0, hf, E, p⟩ := q
  cases hf
  exact p .non σ H H0 (Tr.refl _ _ _ _) E (Kpt.refl _ _) (rep_non (G := Cx.G X) (H := H0))
theorem ps_nameF (B : COkB C sc X) (hfn : ∀ x, X.fn x = true) {x : Str} {px : Pos} {e : Expr} {ev : Rho → Option (Sl × Rho)} (he : PE X e (tS (Cx.G X) ev)) (hs : swapsWith e (some (.Name x px)) pos.line X.env = pure false) :
    PS X (.Assign [.Name x px] e pos) (tF (Cx.G X) ok fun ρ => nameS C ok sc x (ev ρ)) := PS.of fun Dn σ H q => by
  obtain ⟨ρ, fl, H0, hf, E, p⟩ := q
  dsimp only at hf
  cases h1 : ev ρ with
  | none => rw [h1] at hf; cases hf
  | some r =>
    obtain ⟨s, ρ1⟩ := r
    rw [h1] at hf
    obtain ⟨ρ', h2, rfl⟩ := map_nx hf
    obtain ⟨i, h3, h4, h5, h6, rfl⟩ := nameT_ix h2
    obtain ⟨l1, l2⟩ := loc_of (m := mAll) B (fun x _ => hfn x) h4
    refine ⟨_, ps_set (by rw [B.N]; exact B.nd) (by rw [B.N]; exact idx_get h3) l1 he hs l2, ρ, s, ρ1, H0, h1, E, fun v H' H0' T E' r => ?_⟩
    obtain ⟨e1, e2⟩ := E'.store T h5 r
    exact p _ _ _ e2 e1 (kpt_set h6)
theorem ps_compF (S : SOk C sc k X) {x : Str} {px lp : Pos} {scope : Scope} {evO evI : Rho → Expr → Option (D × Rho)} {etI : Rho → Expr → Option (Bool × Rho)} {elt tg iter : Expr} {ifs : List Expr}
    (hO : ∀ e, PE X e (tD (Cx.G X) fun ρ => evO ρ e))
    (hI : ∀ (X' : L2.Cx), COk C (relS scope sc) k X' → Cx.G X' = Cx.G X → ∀ e, PE X' e (tD (Cx.G X) fun ρ => evI ρ e))
    (hT : ∀ (X' : L2.Cx), COk C (relS scope sc) k X' → Cx.G X' = Cx.G X → ∀ e, PT X' e (tT (Cx.G X) fun ρ => etI ρ e))
    (hsw : swB sc scope x px.line lp.line = true) :
    PS X (.Assign [.Name x px] (.ListComp elt [⟨tg, iter, ifs, 0⟩] scope lp) pos) (tF (Cx.G X) ok fun ρ => nameS C ok sc x (compE C sc scope evO evI etI elt tg iter ifs ρ)) := PS.of fun Dn σ H q => by
  obtain ⟨ρ, fl, H0, hf, E, p⟩ := q
  dsimp only at hf
  cases h1 : compE C sc scope evO evI etI elt tg iter ifs ρ with
  | none => rw [h1] at hf; cases hf
  | some r =>
    obtain ⟨s, ρ1⟩ := r
    rw [h1] at hf
    obtain ⟨ρ', h2, rfl⟩ := map_nx hf
    obtain ⟨i, h3, h4, h5, h6, rfl⟩ := nameT_ix h2
    have hy : X.env.scope.names.lookup x = some .local := by
      rw [S.K.sc]
      simp only [swB, Bool.and_eq_true, decide_eq_true_eq] at hsw
      exact hsw.1.1
    have q' : tS (Cx.G X) (compE C sc scope evO evI etI elt tg iter ifs) σ H (fun v H1 => Dn.nx (σ.set i (some v)) H1) := by
      refine ⟨ρ, s, ρ1, H0, h1, E, fun v H' H0' T E' r => ?_⟩
      obtain ⟨e1, e2⟩ := E'.store T h5 r
      exact p _ _ _ e2 e1 (kpt_set h6)
    obtain ⟨own, wi, g, tt, te, g1, g2, g3, g4, g5, hns, g6⟩ := comp_core S.K hO hI hT q'
    exact ⟨_, ps_setLc (i := i) (own := own) S.K.calm (by rw [S.K.N]; exact S.K.nd) (by rw [S.K.N]; exact idx_get h3) hy (by rw [sw_list S.K.sc S.kind, hsw]) g1 g2 g3 g4 g5 (by intro x; cases iter <;> first | rfl | (simp [notSet] at hns)), g6⟩
theorem assignEach_one {env : Env} {tg : Expr} (h : notStar tg = true) : (assignEach [tg] env).map (·.2) = [assign tg env] := by
  cases tg <;> first | rfl | (simp [notStar] at h)
theorem ps_asgF (S : SOk C sc k X) {tg e : Expr} {ev : Rho → Option (D × Rho)} {f : D → Rho → Option Rho} (he : PE X e (tD (Cx.G X) ev)) (hg : PG X tg (tG (Cx.G X) ok f)) (hn : notComp e = true) (hp : plainAsg tg e = true) (hst : notStar tg = true) :
    PS X (.Assign [tg] e pos) (tF (Cx.G X) ok fun ρ => asgS f (ev ρ)) := PS.of fun Dn σ H q => by
  obtain ⟨ρ, fl, H0, hf, E, p⟩ := q
  dsimp only at hf
  cases h1 : ev ρ with
  | none => rw [h1] at hf; cases hf
  | some r =>
    obtain ⟨s, ρ1⟩ := r
    rw [h1] at hf
    obtain ⟨ρ', h2, rfl⟩ := map_nx hf
    refine ⟨_, ps_asg he hg (sw_sole hn _ _ _) (swapped_no hp) (assignEach_one hst), ρ, s, ρ1, H0, h1, E, fun v H' H0' T E' r => ?_⟩
    exact ⟨ρ1, s, ρ', H0', h2, E', r, fun σ2 H2 H02 T2 E2 k2 => p _ _ _ (T.trans T2) E2 k2⟩
theorem ps_par2K (S : SOk C sc k X) {x y : Str} {px py pt pt2 : Pos} {kt k2} {a b : Expr} {ev : Rho → Expr → Option (Sl × Rho)} (he : ∀ e, PE X e (tS (Cx.G X) fun ρ => ev ρ e)) (hc : par2K sc x y a b = true) :
    PS X (.Assign [.Tuple [.Name x px, .Name y py] kt pt] (.Tuple [a, b] k2 pt2) pos) (tF (Cx.G X) ok (par2S C ok sc ev x y a b)) := PS.of fun Dn σ H q => by
  obtain ⟨ρ, fl, H0, hf, E, p⟩ := q
  unfold par2S at hf
  split at hf
  · rename_i s1 ρ1 h1
    split at hf
    · rename_i s2 ρ2 h2
      split at hf
      · rename_i i j hi hj
        split at hf
        · rename_i hc2
          obtain ⟨c1, c2, c3, c4, c5⟩ := hc2
          cases hf
          have hc' := hc
          simp only [par2K, Bool.and_eq_true] at hc'
          obtain ⟨⟨⟨⟨_, lx⟩, ly⟩, nsa⟩, nsb⟩ := hc'
          obtain ⟨l1, l2⟩ := loc_of (m := mAll) S.K.toCOkB (fun x _ => S.fn x) lx
          obtain ⟨l3, l4⟩ := loc_of (m := mAll) S.K.toCOkB (fun x _ => S.fn x) ly
          have nd : X.N.Nodup := by rw [S.K.N]; exact S.K.nd
          refine ⟨_, ps_asg (pe_tup (pa_cons (he a) (pa_cons (he b) pa_nil (star_of nsb)) (star_of nsa))) (pg_tup S.K.calm (pgs_cons (pg_name nd (by rw [S.K.N]; exact idx_get hi) l1 l2) (pgs_cons (pg_name nd (by rw [S.K.N]; exact idx_get hj) l3 l4) pgs_nil))) (sw_sole rfl _ _ _) (swappedK S.K.sc hc) rfl, ?_⟩
          refine ⟨ρ, s1, ρ1, H0, h1, E, fun v1 H1 H01 T1 E1 r1 => ?_⟩
          refine ⟨ρ1, s2, ρ2, H01, h2, E1, fun v2 H2 H02 T2 E2 r2 => ?_⟩
          refine ⟨(by decide : 2 ≤ sizeLine), fun b hb => ?_⟩
          have hb0 := E2.ex.back hb
          have TN : Tr ρ2 σ H02 H2 ρ2 σ (upd H02 b (.tup [v1, v2])) (upd H2 b (.tup [v1, v2])) := Tr.newI hb hb0
          have EN := E2.newI (o := .tup [v1, v2]) hb
          refine ⟨b, [v1, v2], rfl, .inl (.inl upd_same), rfl, v1, [v2], rfl, v2, [], rfl, rfl, ?_⟩
          have r1' := RSl.keep (H0 := H0) r1 (T2.trans TN)
          have r2k : RSl (Cx.G X) ρ1 σ H1 ρ2 (upd H02 b (.tup [v1, v2])) (upd H2 b (.tup [v1, v2])) s2 v2 := RSl.keep (H0 := H01) r2 TN
          have r2' : RSl (Cx.G X) ρ σ H ρ2 (upd H02 b (.tup [v1, v2])) (upd H2 b (.tup [v1, v2])) s2 v2 := RSl.via T1 r2k
          obtain ⟨w1, w2⟩ := EN.store3 (T1.trans (T2.trans TN)) c5 c1 c2 r1' r2' (fun a xs ys e1 e2 e3 e4 => by
            subst e1; subst e2; subst e3; subst e4
            obtain ⟨a1, vs1, z1, g1, g2, g3, g4, g5⟩ := r1
            obtain ⟨a2, vs2, z2, l1, l2, l3, l4, l5⟩ := r2
            cases z1; cases z2
            rcases l5 with z | z
            · exact g4 z
            · exact z.not g1)
          exact p _ _ _ w2 w1 ((kpt_set c3).trans (kpt_set c4))
        · cases hf
      · cases hf
    · cases hf
  · cases hf
theorem ps_par2F (S : SOk C sc k X) {x y : Str} {px py pt pt2 : Pos} {kt k2} {a b : Expr} {ev : Rho → Expr → Option (Sl × Rho)} (he : ∀ e, PE X e (tS (Cx.G X) fun ρ => ev ρ e)) (hc : par2C sc x y px py a b = true) :
    PS X (.Assign [.Tuple [.Name x px, .Name y py] kt pt] (.Tuple [a, b] k2 pt2) pos) (tF (Cx.G X) ok (par2S C ok sc ev x y a b)) := PS.of fun Dn σ H q => by
  obtain ⟨ρ, fl, H0, hf, E, p⟩ := q
  unfold par2S at hf
  split at hf
  · rename_i s1 ρ1 h1
    split at hf
    · rename_i s2 ρ2 h2
      split at hf
      · rename_i i j hi hj
        split at hf
        · rename_i hc2
          obtain ⟨c1, c2, c3, c4, c5⟩ := hc2
          cases hf
          have hc' := hc
          simp only [par2C, Bool.and_eq_true, decide_eq_true_eq] at hc'
          have nsa : notStar a = true := hc'.1.1.1.2
          have nsb : notStar b = true := hc'.1.1.2
          refine ⟨_, ps_par S.K.calm (by rw [S.K.N]; exact S.K.nd) (by rw [S.K.N]; exact idx_get hi) (by rw [S.K.N]; exact idx_get hj) c5 (by rw [S.K.sc]; exact hc'.1.1.1.1.1.1.1) (by rw [S.K.sc]; exact hc'.1.1.1.1.1.1.2)
            (pa_cons (he a) (pa_cons (he b) pa_nil (star_of nsb)) (star_of nsa)) (swapped2 S.K.sc S.kind hc) (sw_sole rfl _ _ _), ?_⟩
          refine ⟨ρ, s1, ρ1, H0, h1, E, fun v1 H1 H01 T1 E1 r1 => ?_⟩
          refine ⟨ρ1, s2, ρ2, H01, h2, E1, fun v2 H2 H02 T2 E2 r2 => ?_⟩
          refine ⟨v1, v2, rfl, ?_⟩
          have r1' := RSl.keep (H0 := H0) r1 T2
          have r2' : RSl (Cx.G X) ρ σ H ρ2 H02 H2 s2 v2 := by
            cases s2 with
            | im d => exact r2
            | fn d => exact r2
            | fz d => exact r2
            | tt d => exact r2
            | ow xs =>
              obtain ⟨a, vs, e, g1, g2, g3, g4, g5⟩ := r2
              refine ⟨a, vs, e, g1, g2, g3, g4, ?_⟩
              rcases g5 with z | z
              · exact T1.nw a z
              · exact .inr (T1.kp a z)
          obtain ⟨w1, w2⟩ := E2.store3 (T1.trans T2) c5 c1 c2 r1' r2' (fun a xs ys e1 e2 e3 e4 => by
            subst e1; subst e2; subst e3; subst e4
            obtain ⟨a1, vs1, z1, g1, g2, g3, g4, g5⟩ := r1
            obtain ⟨a2, vs2, z2, l1, l2, l3, l4, l5⟩ := r2
            cases z1; cases z2
            rcases l5 with z | z
            · exact g4 z
            · exact z.not g1)
          exact p _ _ _ w2 w1 ((kpt_set c3).trans (kpt_set c4))
        · cases hf
      · cases hf
    · cases hf
  · cases hf
end
end Dv

set_option Elab.async false
set_option linter.all false
set_option maxRecDepth 100000
set_option maxHeartbeats 4000000
namespace Dv
open PySem L2 RZ
variable [TabC]

def tGetL (K : PySem.W.Frag) : V → V → Hp → VK → Prop := fun x y H Q => ∃ p xs i v, x = .ref p ∧ y = .int i ∧ SqL K H p xs ∧ atI xs i = some v ∧ Q v H
theorem pget_list {X : L2.Cx} : PGet X (tGetL X.K) := by
  intro pins s σ H x y v u Q I rx ry h
  obtain ⟨p, xs, i, z, rfl, rfl, hq, he, q⟩ := h
  cases rx
  obtain ⟨t, rfl⟩ := ry
  obtain ⟨its, r, pl, hz⟩ := I.list hq
  obtain ⟨j, h1, h2, h3, h4, h5⟩ := atI_get he
  obtain ⟨w, ew, rw'⟩ := r.get h2
  have hl := r.length
  have hn := line63
  have fin : EP X pins σ Q w s := ⟨z, H, I, rw', q⟩
  by_cases h0 : 0 ≤ i
  · have hj : i.toNat = j := by
      rw [seqIndex_of h0 h5] at h1
      exact Option.some.inj h1
    exact wpAny_getItem_list pl.isList h0 (by omega) (by rw [hj]; simpa using ew) fin
  · have hj : (i + (its.toArray.size : Int)).toNat = j := by
      rw [seqIndex_neg (by omega) h4] at h1
      rw [List.size_toArray, ← hl]
      exact Option.some.inj h1
    exact wpAny_getItem_list_neg pl.isList (by omega) (by rw [List.size_toArray] <;> omega) (by omega) (by rw [hj]; simpa using ew) fin
theorem pip_of {X : L2.Cx} {op : Operator} {f : Int → Int → Int} (h : augOp op = some f) : PIp X op (ipI f) := by
  cases op <;> first | (cases h; done) | (cases h; exact ip_add) | (cases h; exact ip_sub)
section
variable {X : L2.Cx} {C : Cf} {sc : Scope} {k : Nat} {ok : Nat → Bool} {pos : Pos}
theorem ps_augF (S : SOk C sc k X) {x : Str} {px : Pos} {op : Operator} {e : Expr} {ev : Rho → Option (D × Rho)} (he : PE X e (tD (Cx.G X) ev)) :
    PS X (.AugAssign (.Name x px) op e pos) (tF (Cx.G X) ok (augN C ok sc ev x op)) := PS.of fun Dn σ H q => by
  obtain ⟨ρ, fl, H0, hf, E, p⟩ := q
  unfold augN at hf
  split at hf
  · rename_i f hop
    split at hf
    · rename_i hl
      split at hf
      · rename_i i hi
        split at hf
        · rename_i a ha
          split at hf
          · rename_i b ρ1 h1
            split at hf
            · rename_i hc
              cases hf
              obtain ⟨l1, l2⟩ := loc_of (m := mAll) S.K.toCOkB (fun x _ => S.fn x) hl
              refine ⟨_, ps_aug (by rw [S.K.N]; exact S.K.nd) (by rw [S.K.N]; exact idx_get hi) l1 he (pip_of hop) l2, ?_⟩
              obtain ⟨v, e1, e2⟩ := E.im i _ ha
              refine ⟨v, e1, ρ, _, ρ1, H0, h1, E, fun w H1 H01 T1 E1 r1 => ?_⟩
              refine ⟨a, b, e2.int, r1.int, ?_⟩
              obtain ⟨w1, w2⟩ := E1.store T1 hc.1 (s := .im (.int (f a b))) (v := .int (f a b)) (rep_int (G := Cx.G X) (H := H01) (f a b))
              exact p _ _ _ w2 w1 (kpt_set hc.2)
            · cases hf
          · cases hf
        · cases hf
      · cases hf
    · cases hf
  · cases hf
theorem ps_augXF (S : SOk C sc k X) {x : Str} {px ps : Pos} {ie : Expr} {op : Operator} {e : Expr} {ev : Rho → Expr → Option (D × Rho)} (he : ∀ e, PE X e (tD (Cx.G X) fun ρ => ev ρ e)) :
    PS X (.AugAssign (.Subscript (.Name x px) ie ps) op e pos) (tF (Cx.G X) ok (augX C sc ev x ie op e)) := PS.of fun Dn σ H q => by
  obtain ⟨ρ, fl, H0, hf, E, p⟩ := q
  unfold augX at hf
  split at hf
  · rename_i f hop
    split at hf
    · cases hf
    rename_i hns
    split at hf
    · rename_i i hi
      split at hf
      · rename_i xs0 hx0
        split at hf
        · rename_i z ρ1 h1
          split at hf
          · rename_i xs hx
            split at hf
            · rename_i j hj
              split at hf
              · rename_i a ha
                split at hf
                · rename_i b ρ2 h2
                  split at hf
                  · rename_i ys hy
                    split at hf
                    · rename_i hlen
                      cases hf
                      have hast : ∀ ov iv new, augStore ie ov iv new = (do holding [new, ov, iv] (setItem ov iv new); release [new, ov, iv] []; pure .next) := by
                        intro ov iv new
                        cases ie <;> first | rfl | (exfalso; exact hns rfl)
                      refine ⟨_, ps_augS (slot_pe S.K.toCOkB hi) (he ie) pget_list (he e) (pip_of hop) set_list hast, ?_⟩
                      obtain ⟨a0, vs0, e0, _⟩ := E.ow i xs0 hx0
                      refine ⟨_, e0, ρ, _, _, H0, h1, E, fun w H1 H01 T1 E1 r1 => ?_⟩
                      obtain ⟨a1, vs1, e1, e2, e3, e4⟩ := E1.ow i xs hx
                      rw [e0] at e1; cases e1
                      obtain ⟨v, g1, g2⟩ := e4.get ha
                      refine ⟨a0, vs1, z, v, rfl, r1.int, SqL.of e2, by unfold atI; rw [← e4.length, hj]; exact g1, ?_⟩
                      refine ⟨ρ1, _, _, H01, h2, E1, fun u H2 H02 T2 E2 r2 => ?_⟩
                      refine ⟨a, b, g2.int, r2.int, ?_⟩
                      obtain ⟨a2, vs2, l1, l2, l3, l4⟩ := E2.ow i ys hy
                      rw [e0] at l1; cases l1
                      refine ⟨a0, vs2, z, j, rfl, r1.int, l2, by rw [← l4.length, hlen.2]; exact hj, ?_⟩
                      obtain ⟨w1, w2⟩ := E2.write hy e0 (Reps.set (rep_int (f a b)) j l4)
                      exact p _ _ _ ((T1.trans T2).trans w2) w1 (Kpt.refl _ _)
                    · cases hf
                  · cases hf
                · cases hf
              · cases hf
            · cases hf
          · cases hf
        · cases hf
      · cases hf
    · cases hf
  · cases hf
theorem ps_appF (B : COkB C sc X) {x : Str} {px apos cpos : Pos} {e : Expr} {ev : Rho → Option (D × Rho)} (he : PE X e (tD (Cx.G X) ev)) (hn : notStar e = true) (hl : (apos.endLine == cpos.line) = true) :
    PS X (.Expr (.Call (.Attribute (.Name x px) "append" apos) [e] [] cpos) pos) (tF (Cx.G X) ok (appS C sc ev x)) := PS.of fun Dn σ H q => by
  obtain ⟨ρ, fl, H0, hf, E, p⟩ := q
  unfold appS at hf
  split at hf
  · rename_i i hi
    split at hf
    · rename_i xs0 hx0
      split at hf
      · rename_i d ρ1 h1
        split at hf
        · rename_i xs hx
          split at hf
          · rename_i hlen
            cases hf
            have hstar : starEach [e] X.env = (false, eval e X.env) :: starEach [] X.env := star_of hn
            refine ⟨_, ps_expr (pe_bm PySem.F.plainAttrs_list PySem.F.slot_list_append PySem.F.type_list_append mt_append (slot_pe B hi) (pa_cons he pa_nil hstar) rfl (by rw [hstar]; rfl) hl hstar rfl) rfl, ?_⟩
            obtain ⟨a0, vs0, e0, g2, _⟩ := E.ow i xs0 hx0
            refine ⟨_, e0, .inl ⟨rfl, _, SqL.of g2⟩, ρ, d, ρ1, H0, h1, E, fun w H1 H01 T1 E1 r1 => ?_⟩
            obtain ⟨a1, vs1, e1, e2, e3, e4⟩ := E1.ow i xs hx
            rw [e0] at e1; cases e1
            refine ⟨a0, vs1, w, rfl, rfl, e2, by rw [← e4.length]; exact sline_lt hlen, ?_⟩
            obtain ⟨w1, w2⟩ := E1.write hx e0 (e4.append (Reps.cons r1 Reps.nil))
            exact p _ _ _ (T1.trans w2) w1 (Kpt.refl _ _)
          · cases hf
        · cases hf
      · cases hf
    · cases hf
  · cases hf
theorem ps_dropF {e : Expr} {ev : Rho → Option (Sl × Rho)} (he : PE X e (tS (Cx.G X) ev)) (hn : notComp e = true) : PS X (.Expr e pos) (tF (Cx.G X) ok fun ρ => (ev ρ).map fun r => .nx r.2) := PS.of fun Dn σ H q => by
  refine ⟨_, ps_expr he (sw_no hn _ _ _), ?_⟩
  obtain ⟨ρ, fl, H0, hf, E, p⟩ := q
  dsimp only at hf
  cases h1 : ev ρ with
  | none => rw [h1] at hf; cases hf
  | some r =>
    obtain ⟨s, ρ1⟩ := r
    rw [h1] at hf
    cases hf
    exact ⟨ρ, s, ρ1, H0, h1, E, fun v H' H0' T E' r => p _ _ _ T E' (Kpt.refl _ _)⟩
theorem ps_ifF {c : Expr} {a b : List Stmt} {t : Rho → Option (Bool × Rho)} {fa fb : Rho → Option Fl} (hc : PT X c (tT (Cx.G X) t)) (ha : PSs X a (tF (Cx.G X) ok fa)) (hb : PSs X b (tF (Cx.G X) ok fb)) :
    PS X (.If c a b pos) (tF (Cx.G X) ok fun ρ => ifS (t ρ) fa fb) := PS.of fun Dn σ H q => by
  refine ⟨_, ps_if hc ha hb, ?_⟩
  obtain ⟨ρ, fl, H0, hf, E, p⟩ := q
  dsimp only at hf
  cases h1 : t ρ with
  | none => rw [h1] at hf; cases hf
  | some r =>
    obtain ⟨v, ρ1⟩ := r
    rw [h1] at hf
    refine ⟨ρ, v, ρ1, H0, h1, E, fun H1 H01 T1 E1 => ?_⟩
    cases v with
    | true =>
      rw [if_pos rfl]
      exact ⟨ρ1, fl, H01, hf, E1, p.via T1 (Kpt.refl _ _)⟩
    | false =>
      rw [if_neg Bool.false_ne_true]
      exact ⟨ρ1, fl, H01, hf, E1, p.via T1 (Kpt.refl _ _)⟩

/-! ### the step -/
def appX : Expr → Option (Str × Expr)
  | .Call (.Attribute (.Name x _) nm apos) [e] [] cpos => if nm = "append" ∧ (apos.endLine == cpos.line) = true ∧ notStar e = true then some (x, e) else none
  | _ => none
def asgE (C : Cf) (r : Evs) (sc : Scope) (ok : Nat → Bool) (ρ : Rho) (tg e : Expr) : Option Fl :=
  if notComp e = true ∧ plainAsg tg e = true ∧ notStar tg = true then asgS (fun d ρ => tgtE C mAll ok sc (r.d sc) 8 tg d ρ) (r.d sc ρ e) else none
def stepS (C : Cf) (r : Evs) (sc : Scope) (ok : Nat → Bool) (wf : Nat) (f : Rho → Stmt → Option Fl) (ρ : Rho) : Stmt → Option Fl
  | .Expr e _ => match e with
    | .Constant (.str _) _ _ => some (.nx ρ)
    | e => match appX e with
      | some (x, a) => appS C sc (fun ρ => r.d sc ρ a) x ρ
      | none => if notComp e then (r.e sc ρ e).map fun q => .nx q.2 else none
  | .Pass _ => some (.nx ρ)
  | .Break _ => some (.bk ρ)
  | .Continue _ => some (.ct ρ)
  | .Return (some e) _ => retOf (r.e sc ρ e)
  | .Return none _ => some (.rt (.im .none) ρ)
  | .Assign [.Name x px] e _ => match e with
    | .ListComp elt [⟨tg, iter, ifs, 0⟩] scope lp => if swB sc scope x px.line lp.line then nameS C ok sc x (compE C sc scope (r.d sc) (r.d (relS scope sc)) (r.t (relS scope sc)) elt tg iter ifs ρ) else nameS C ok sc x (r.e sc ρ e)
    | e => if notComp e then nameS C ok sc x (r.e sc ρ e) else none
  | .Assign [tg] e _ => match tg, e with
    | .Tuple [.Name x px, .Name y py] _ _, .Tuple [a, b] _ _ => if par2C sc x y px py a b then par2S C ok sc (r.e sc) x y a b ρ else if par2K sc x y a b then par2S C ok sc (r.e sc) x y a b ρ else asgE C r sc ok ρ tg e
    | tg, e => asgE C r sc ok ρ tg e
  | .AugAssign (.Name x _) op e _ => augN C ok sc (fun ρ => r.d sc ρ e) x op ρ
  | .AugAssign (.Subscript (.Name x _) ie _) op e _ => augX C sc (r.d sc) x ie op e ρ
  | .If c a b _ => ifS (r.t sc ρ c) (runL f a) (runL f b)
  | .For tg iter body [] _ => if notSet iter then (match itE sc (r.d sc) tg iter ρ with
    | some (its, ρ1) => forE (fun d ρ => tgtE C mAll ok sc (r.d sc) 8 tg d ρ) (runL f body) its ρ1
    | none => none) else none
  | .While c body [] _ => whileE (fun ρ => r.t sc ρ c) (runL f body) wf ρ
  | _ => none
def exs (C : Cf) (r : Evs) (sc : Scope) (ok : Nat → Bool) (wf : Nat) : Nat → Rho → Stmt → Option Fl
  | 0 => fun _ _ => none
  | n + 1 => stepS C r sc ok wf (exs C r sc ok wf n)
theorem PS.none {s : Stmt} {t : Rho → Option Fl} (h : ∀ ρ, t ρ = none) : PS X s (tF (Cx.G X) ok t) := PS.of fun Dn σ H q => by
  obtain ⟨ρ, fl, H0, hf, E, p⟩ := q
  rw [h] at hf; cases hf
theorem asg_ok {r : Evs} (R : Sound C k r) (S : SOk C sc k X) (tg e : Expr) : PS X (.Assign [tg] e pos) (tF (Cx.G X) ok fun ρ => asgE C r sc ok ρ tg e) := by
  by_cases h : notComp e = true ∧ plainAsg tg e = true ∧ notStar tg = true
  · have h0 := ps_asgF (pos := pos) S (R.d S.K e) (pg_tgt (m := mAll) (ok := ok) S.K (fun x _ => S.fn x) (R.d S.K) 8 tg) h.1 h.2.1 h.2.2
    have e0 : (fun ρ => asgE C r sc ok ρ tg e) = fun ρ => asgS (tgtE C mAll ok sc (r.d sc) 8 tg) (r.d sc ρ e) := by
      funext ρ
      unfold asgE
      rw [if_pos h]
    rw [e0]
    exact h0
  · exact PS.none fun ρ => by simp only [asgE, if_neg h]
theorem stepS_ok {r : Evs} {wf : Nat} {f : Rho → Stmt → Option Fl} (R : Sound C k r) (S : SOk C sc k X) (F : ∀ s, PS X s (tF (Cx.G X) ok fun ρ => f ρ s)) (s : Stmt) : PS X s (tF (Cx.G X) ok fun ρ => stepS C r sc ok wf f ρ s) := by
  have hd := R.d S.K
  obtain ⟨he, ht⟩ := R sc X S.K
  have L := pss_run F
  unfold stepS
  split
  · rename_i e pe
    split
    · exact PS.of fun Dn σ H q => by
        obtain ⟨ρ, fl, H0, hf, E, p⟩ := q
        cases hf
        exact ⟨_, ps_doc, p σ H H0 (Tr.refl _ _ _ _) E (Kpt.refl _ _)⟩
    · rename_i e' _
      split
      · rename_i x a hx
        unfold appX at hx
        split at hx
        · split at hx
          · rename_i hc
            obtain ⟨rfl, h2, h3⟩ := hc
            cases hx
            exact ps_appF S.K.toCOkB (hd _) h3 h2
          · cases hx
        · cases hx
      · split
        · rename_i hn
          exact ps_dropF (he _) hn
        · exact PS.none fun _ => rfl
  · exact PS.of fun Dn σ H q => by
      obtain ⟨ρ, fl, H0, hf, E, p⟩ := q
      cases hf
      exact ⟨_, ps_pass, p σ H H0 (Tr.refl _ _ _ _) E (Kpt.refl _ _)⟩
  · exact PS.of fun Dn σ H q => by
      obtain ⟨ρ, fl, H0, hf, E, p⟩ := q
      cases hf
      exact ⟨_, ps_break, p σ H H0 (Tr.refl _ _ _ _) E (Kpt.refl _ _)⟩
  · exact PS.of fun Dn σ H q => by
      obtain ⟨ρ, fl, H0, hf, E, p⟩ := q
      cases hf
      exact ⟨_, ps_continue, p σ H H0 (Tr.refl _ _ _ _) E (Kpt.refl _ _)⟩
  · exact ps_retF (he _)
  · exact ps_retNF
  · rename_i x px e pe
    split
    · rename_i elt tg iter ifs scope lp
      by_cases hsw : swB sc scope x px.line lp.line = true
      · simp only [hsw, if_true]
        exact ps_compF S hd (fun X' K' eG e => by rw [← eG]; exact R.d K' e) (fun X' K' eG e => by rw [← eG]; exact (R _ X' K').2 e) hsw
      · simp only [hsw]
        refine ps_nameF S.K.toCOkB S.fn (he _) ?_
        rw [sw_list S.K.sc S.kind]
        simp only [Bool.not_eq_true] at hsw
        rw [hsw]
    · split
      · rename_i hn
        exact ps_nameF S.K.toCOkB S.fn (he _) (sw_no hn _ _ _)
      · exact PS.none fun _ => rfl
  · split
    · rename_i x px y py _ _ a b _ _ _
      by_cases hc : par2C sc x y px py a b = true
      · simp only [hc, if_true]
        exact ps_par2F S he hc
      · simp only [hc]
        by_cases hk : par2K sc x y a b = true
        · simp only [hk, if_true]
          exact ps_par2K S he hk
        · simp only [hk]
          exact asg_ok R S _ _
    · exact asg_ok R S _ _
  · exact ps_augF S (hd _)
  · exact ps_augXF S hd
  · exact ps_ifF (ht _) (L _) (L _)
  · rename_i tg iter body pe
    by_cases hns : notSet iter = true
    · simp only [hns, if_true]
      exact ps_forF S.hp S.K.calm (pi_src S.K hd tg iter) (pg_tgt (m := mAll) S.K (fun x _ => S.fn x) hd 8 tg) (L _) hns
    · simp only [hns]
      exact PS.none fun _ => rfl
  · exact ps_whileF S.hp (ht _) (L _)
  · exact PS.none fun _ => rfl
theorem exs_ok {r : Evs} {wf : Nat} (R : Sound C k r) (S : SOk C sc k X) : ∀ n s, PS X s (tF (Cx.G X) ok fun ρ => exs C r sc ok wf n ρ s)
  | 0, s => PS.none fun _ => rfl
  | n + 1, s => stepS_ok R S (exs_ok R S n) s
end
end Dv

set_option Elab.async false
set_option linter.all false
set_option maxRecDepth 100000
set_option maxHeartbeats 4000000
namespace Dv
open PySem PySem.Spec L2 RZ
open PyProof.Rows (envOfC)
variable [TabC]

/-! ### from a body to a def -/
structure FOkP (P : Program) (w : World) (K : PySem.W.Frag) (mg : Str → Option Value) (base : Heap) (k : Nat) (x : Str) (fn : Fn) : Prop where
  ex : ∃ f fd ps, mg x = some (.ref f) ∧ PySem.W.keepIn K (.ref f) = true ∧ FnOk P w K mg base (L2.CX P w) k f fd ps (spOf (K, mg) fn) ∧ Binds K fd ps []
theorem FOkP.mono {P : Program} {w : World} {K : PySem.W.Frag} {mg : Str → Option Value} {base : Heap} {j k : Nat} {x : Str} {fn : Fn} (F : FOkP P w K mg base j x fn) (h : j ≤ k) : FOkP P w K mg base k x fn := by
  obtain ⟨f, fd, ps, a, b, c, d⟩ := F.ex
  exact ⟨f, fd, ps, a, b, c.mono h, d⟩
theorem FOkP.here {X : L2.Cx} {k : Nat} {x : Str} {fn : Fn} (F : FOkP X.prog X.w X.K X.mg X.base k x fn) (hr : Room k X.A) : FOk k X x fn := by
  obtain ⟨f, fd, ps, a, b, c, d⟩ := F.ex
  exact ⟨f, fd, ps, a, b, .of c hr, d⟩
theorem FnOk.toCX {P : Program} {w : World} {K : PySem.W.Frag} {mg : Str → Option Value} {base : Heap} {k : Nat} {f : Addr} {fd : FuncData} {ps : List Str} {sp : Sp} (F : FnOk P w K mg base CX0 k f fd ps sp) : FnOk P w K mg base (L2.CX P w) k f fd ps sp :=
  ⟨F.len, fun A outer s H args us vs Q E hr he hb hv hs => codeAny_mono (F.run A outer s H args us vs Q E hr he hb hv hs) fun r s' h => by
    cases r with
    | ok r => cases r <;> exact h
    | error e => exact absurd h (fun z => z)⟩
/-- what the names of a module mean -/
structure MOk (gl : Str → Option Sl) (fns : Str → Option Fn) (P : Program) (w : World) (K : PySem.W.Frag) (mg : Str → Option Value) (base : Heap) (k : Nat) : Prop where
  gl : ∀ x s, gl x = some s → ∃ u v, mg x = some u ∧ RelV v u ∧ ∀ (ρ : Rho) (σ : St) (H : Hp) (ρ' : Rho) (H0 H' : Hp), RSl (K, mg) ρ σ H ρ' H0 H' s v
  fns : ∀ x fn, fns x = some fn → FOkP P w K mg base k x fn
  blt : ∀ x v, bltV x = some v → mg x = none
  isi : mg "isinstance" = none ∧ mg "range" = none ∧ mg "enumerate" = none ∧ mg "zip" = none ∧ mg "set" = none
  tys : mg "int" = none ∧ mg "bool" = none ∧ mg "tuple" = none ∧ mg "str" = none ∧ mg "list" = none
def retF : Option Fl → Option (Sl × Rho)
  | some (.rt s ρ) => some (s, ρ)
  | some (.nx ρ) => some (.im .none, ρ)
  | _ => none
def entR (N : List Str) (fn : Fn) (bs : List D) (as : List Sl) : Rho :=
  let r : Rho := (if fn.box = true then [some (.ow bs)] else []) ++ as.map some
  r ++ List.replicate (N.length - r.length) none
theorem rargs_no_ow {G : Ctx} {H : Hp} : ∀ {as : List Sl} {vs : List V}, RArgs G H as vs → ∀ xs, Sl.ow xs ∉ as
  | [], _, _, xs, h => by cases h
  | a :: as, _, h, xs, hm => by
    obtain ⟨w, ws, rfl, h1, h2⟩ := h
    rcases List.mem_cons.mp hm with z | z
    · subst z; exact h1
    · exact rargs_no_ow h2 xs z
theorem ent_args {N : List Str} {as : List Sl} {vs : List V} (hl : as.length = vs.length) {i : Nat} {s : Sl} (e : (as.map some ++ List.replicate (N.length - as.length) none : Rho)[i]? = some (some s)) : as[i]? = some s := by
  by_cases hi : i < as.length
  · rw [List.getElem?_append_left (by simpa using hi), List.getElem?_map] at e
    cases h : as[i]? with
    | none => rw [h] at e; cases e
    | some t => rw [h] at e; simpa using e
  · rw [List.getElem?_append_right (by simpa using hi)] at e
    rw [List.getElem?_replicate] at e
    split at e
    · cases e
    · cases e
theorem start_get {N : List Str} {vs : List V} {i : Nat} {v : V} (e : vs[i]? = some v) : (L2.start N vs)[i]? = some (some v) := by
  have hi : i < vs.length := by
    by_cases hi : i < vs.length
    · exact hi
    · rw [List.getElem?_eq_none (by omega)] at e; cases e
  unfold L2.start
  rw [List.getElem?_append_left (by simpa using hi), List.getElem?_map, e]
  rfl
/-- the frame at a def's entry: plain arguments -/
theorem env_plain {G : Ctx} {N : List Str} {H0 H : Hp} {as : List Sl} {vs : List V} (tb : TbOk H0 H) (ex : Ex H0 H) (r : RArgs G H0 as vs) (hN : vs.length ≤ N.length) :
    REnv G (as.map some ++ List.replicate (N.length - as.length) none) (L2.start N vs) H0 H := by
  have hl := RArgs.length r
  refine ⟨tb, ex, ?_, fun i d e => ?_, fun i d e => ?_, fun i d e => ?_, fun i d e => ?_, fun i d e => ?_, fun i j xs ys a e1 _ _ _ => ?_⟩
  · simp [L2.start, hl]
  · obtain ⟨v, h1, h2⟩ := RArgs.get r (ent_args hl e)
    exact ⟨v, start_get h1, h2⟩
  · obtain ⟨v, h1, h2⟩ := RArgs.get r (ent_args hl e)
    obtain ⟨a, rfl, h3⟩ := h2
    exact ⟨a, start_get h1, h3⟩
  · obtain ⟨v, h1, h2⟩ := RArgs.get r (ent_args hl e)
    obtain ⟨a, rfl, h3⟩ := h2
    exact ⟨a, start_get h1, h3⟩
  · obtain ⟨v, h1, h2⟩ := RArgs.get r (ent_args hl e)
    obtain ⟨a, rfl, h3⟩ := h2
    exact ⟨a, start_get h1, h3⟩
  · exact absurd (List.mem_of_getElem? (ent_args hl e)) (rargs_no_ow r d)
  · exact absurd (List.mem_of_getElem? (ent_args hl e1)) (rargs_no_ow r xs)
/-- the first argument a list that may be changed -/
theorem env_box {G : Ctx} {N : List Str} {H0 H : Hp} {as : List Sl} {ws : List V} {b : Addr} {bs : List D} {bv : List V} (tb : TbOk H0 H) (ex : Ex H0 H) (r : RArgs G H0 as ws) (hb : H b = some (.lst bv)) (h0 : H0 b = none) (rb : Reps G H0 bs bv)
    (hN : ws.length + 1 ≤ N.length) :
    REnv G (some (.ow bs) :: (as.map some ++ List.replicate (N.length - (as.length + 1)) none)) (L2.start N (.ref b :: ws)) H0 H := by
  have hl := RArgs.length r
  have step : ∀ (j : Nat) (s : Sl), (as.map some ++ List.replicate (N.length - (as.length + 1)) none : Rho)[j]? = some (some s) → as[j]? = some s := fun j s e => by
    by_cases hi : j < as.length
    · rw [List.getElem?_append_left (by simpa using hi), List.getElem?_map] at e
      cases h : as[j]? with
      | none => rw [h] at e; cases e
      | some t => rw [h] at e; simpa using e
    · rw [List.getElem?_append_right (by simpa using hi), List.getElem?_replicate] at e
      split at e <;> cases e
  have st : ∀ (j : Nat) (v : V), ws[j]? = some v → (L2.start N (.ref b :: ws))[j + 1]? = some (some v) := fun j v e => start_get (by simpa using e)
  refine ⟨tb, ex, ?_, fun i d e => ?_, fun i d e => ?_, fun i d e => ?_, fun i d e => ?_, fun i d e => ?_, fun i j xs ys a e1 e2 _ _ => ?_⟩
  · simp [L2.start, hl]
  · cases i with
    | zero => simp at e
    | succ j =>
      rw [List.getElem?_cons_succ] at e
      obtain ⟨v, h1, h2⟩ := RArgs.get r (step j _ e)
      exact ⟨v, st j v h1, h2⟩
  · cases i with
    | zero => simp at e
    | succ j =>
      rw [List.getElem?_cons_succ] at e
      obtain ⟨v, h1, h2⟩ := RArgs.get r (step j _ e)
      obtain ⟨a, rfl, h3⟩ := h2
      exact ⟨a, st j _ h1, h3⟩
  · cases i with
    | zero => simp at e
    | succ j =>
      rw [List.getElem?_cons_succ] at e
      obtain ⟨v, h1, h2⟩ := RArgs.get r (step j _ e)
      obtain ⟨a, rfl, h3⟩ := h2
      exact ⟨a, st j _ h1, h3⟩
  · cases i with
    | zero => simp at e
    | succ j =>
      rw [List.getElem?_cons_succ] at e
      obtain ⟨v, h1, h2⟩ := RArgs.get r (step j _ e)
      obtain ⟨a, rfl, h3⟩ := h2
      exact ⟨a, st j _ h1, h3⟩
  · cases i with
    | zero =>
      simp at e
      subst e
      exact ⟨b, bv, start_get (by rfl), hb, h0, rb⟩
    | succ j =>
      rw [List.getElem?_cons_succ] at e
      exact absurd (List.mem_of_getElem? (step j _ e)) (rargs_no_ow r d)
  · cases i with
    | zero =>
      cases j with
      | zero => rfl
      | succ j =>
        rw [List.getElem?_cons_succ] at e2
        exact absurd (List.mem_of_getElem? (step j _ e2)) (rargs_no_ow r ys)
    | succ i =>
      rw [List.getElem?_cons_succ] at e1
      exact absurd (List.mem_of_getElem? (step i _ e1)) (rargs_no_ow r xs)
theorem own_plain {N : List Str} {G : Ctx} {H0 : Hp} {as : List Sl} {vs : List V} (r : RArgs G H0 as vs) {σ : St} {a : Addr} (h : Own (as.map some ++ List.replicate (N.length - as.length) none) σ a) : False := by
  obtain ⟨i, xs, e1, _⟩ := h
  exact rargs_no_ow r xs (List.mem_of_getElem? (ent_args (RArgs.length r) e1))

def okB (fn : Fn) : Nat → Bool := fun i => if fn.box then i != 0 else true
section
variable {P : Program} {w : World} {K : PySem.W.Frag} {mg : Str → Option Value} {base : Heap} {k : Nat} {gl : Str → Option Sl} {fns : Str → Option Fn}
theorem MOk.cx {tt : Bool} (M : MOk gl fns P w K mg base k) {N ps : List Str} {sc : Scope} (S : FnScope N ps sc) {qual : Str} {f : Addr} {cdv : Value} {A : Around} {outer : List Env} {s : Shared} {H : Hp} {E : XK} (hr : Room k (A.deeper (envOfC qual sc s.heap.objs.size f cdv))) :
    SOk ⟨N, gl, fns, tt⟩ sc k (cxOf CX0 P w K mg base N qual sc f cdv A outer s H E).nox :=
  ⟨⟨⟨rfl, S.nd, rfl, M.gl⟩, (fun _ z => nomatch z), (fun z => nomatch z), rfl, hr, fun x fn h => (M.fns x fn h).here hr, M.blt, M.isi, M.tys⟩, fun _ => rfl, S.kind, PassesOwn.never⟩
/-- a def's body, entered with such arguments -/
theorem body_ok {tt : Xt} (fn : Fn) {N ps : List Str} {qual : Str} {st : Stmt} {f : Addr} {cdv : Value} {A : Around} {outer : List Env} {s : Shared} {H : Hp} {vs : List V} {Q : VK} {E E' : XK} (SO : SOk ⟨N, gl, fns, tt⟩ (defScope st) k (cxOf CX0 P w K mg base N qual (defScope st) f cdv A outer s H E).nox)
    (har : fn.ar = ps.length) (hps : ps.length ≤ N.length)
    (hrun : ∀ bs as s bs', fn.run bs as = some (s, bs') → as.length + (if fn.box then 1 else 0) = ps.length → ∃ n m wf ρ', retF (runL (exs ⟨N, gl, fns, tt⟩ (evs ⟨N, gl, fns, tt⟩ n) (defScope st) (okB fn) wf m) (defBody st) (entR N fn bs as)) = some (s, ρ') ∧ (fn.box = true → ρ'[0]? = some (some (.ow bs')))) (h : spOf (K, mg) fn vs H Q E') :
    ∃ t, PSs (cxOf CX0 P w K mg base N qual (defScope st) f cdv A outer s H E).nox (defBody st) t ∧ t { nx := fun _ H' => Q .non H', rt := Q } (L2.start N vs) H := by
  obtain ⟨hlen, H0, htb, hex, h⟩ := h
  have fin : ∀ {ρ0 : Rho} {σ0 : St} {n m wf : Nat} {sl : Sl} {ρ' : Rho}, REnv (K, mg) ρ0 σ0 H0 H → retF (runL (exs ⟨N, gl, fns, tt⟩ (evs ⟨N, gl, fns, tt⟩ n) (defScope st) (okB fn) wf m) (defBody st) ρ0) = some (sl, ρ') →
      (∀ v σ' H' H0', Tr ρ0 σ0 H0 H ρ' σ' H0' H' → REnv (K, mg) ρ' σ' H0' H' → Kpt (okB fn) σ0 σ' → RtOk (K, mg) ρ0 σ0 H ρ' σ' H0' H' sl v → Q v H') →
      ∃ t, PSs (cxOf CX0 P w K mg base N qual (defScope st) f cdv A outer s H E).nox (defBody st) t ∧ t { nx := fun _ H' => Q .non H', rt := Q } σ0 H := by
    intro ρ0 σ0 n m wf sl ρ' E0 hr' hq
    refine ⟨_, pss_run (exs_ok (C := ⟨N, gl, fns, tt⟩) (sc := defScope st) (ok := okB fn) (wf := wf) (evs_ok n) SO m) (defBody st), ?_⟩
    cases hfl : runL (exs ⟨N, gl, fns, tt⟩ (evs ⟨N, gl, fns, tt⟩ n) (defScope st) (okB fn) wf m) (defBody st) ρ0 with
    | none => rw [hfl] at hr'; cases hr'
    | some fl =>
      rw [hfl] at hr'
      refine ⟨ρ0, fl, H0, hfl, E0, ?_⟩
      cases fl with
      | nx ρ1 =>
        cases hr'
        intro σ' H' H0' T' E' k'
        exact hq .non σ' H' H0' T' E' k' (rep_non (G := (K, mg)) (H := H0'))
      | rt s1 ρ1 =>
        cases hr'
        intro v σ' H' H0' T' E' k' r'
        exact hq v σ' H' H0' T' E' k' r'
      | bk ρ1 => cases hr'
      | ct ρ1 => cases hr'
  cases hbox : fn.box with
  | false =>
    rw [hbox] at h
    simp only [if_true] at h
    obtain ⟨as, sl, ra, hrn, hq⟩ := h
    have hal := RArgs.length ra
    obtain ⟨n, m, wf, ρ', h1, _⟩ := hrun [] as sl [] hrn (by rw [hbox]; simp; rw [hal, hlen, har])
    have he : entR N fn [] as = as.map some ++ List.replicate (N.length - as.length) none := by
      unfold entR; simp [hbox]
    rw [he] at h1
    refine fin (env_plain htb hex ra (by rw [hlen, har]; exact hps)) h1 fun v σ' H' H0' T E' k' r => ?_
    refine hq v H' H0' ⟨T.ex, E'.ex, E'.tb, fun a o e1 nt e2 _ => T.fr' a o e1 nt e2 (fun z => own_plain ra z), T.kp⟩ ?_
    cases sl with
    | im d => exact r
    | fn d => exact r.elim
    | fz d => exact r.elim
    | tt d => exact r
    | ow xs =>
      obtain ⟨a, vs', e1, g1, g2, g3, g4, g5⟩ := r
      refine ⟨a, vs', e1, g1, g2, g3, ?_⟩
      rcases g5 with z | z
      · exact (own_plain ra z).elim
      · exact z
  | true =>
    rw [hbox] at h
    simp only [Bool.true_eq_false, if_false] at h
    obtain ⟨b0, bv, bs, ws, as, sl, bs', rfl, hb, hb0, rb, ra, hrn, hq⟩ := h
    have hal := RArgs.length ra
    have hwl : ws.length + 1 = ps.length := by rw [← har, ← hlen]; rfl
    obtain ⟨n, m, wf, ρ', h1, h2⟩ := hrun bs as sl bs' hrn (by rw [hbox]; simp; omega)
    have he : entR N fn bs as = some (.ow bs) :: (as.map some ++ List.replicate (N.length - (as.length + 1)) none) := by
      unfold entR; simp [hbox]
    rw [he] at h1
    have E0 := env_box (G := (K, mg)) (N := N) htb hex ra hb hb0 rb (by omega)
    have st0 : (L2.start N (V.ref b0 :: ws))[0]? = some (some (.ref b0)) := start_get (by rfl)
    have own0 : ∀ a, Own (some (.ow bs) :: (as.map some ++ List.replicate (N.length - (as.length + 1)) none)) (L2.start N (V.ref b0 :: ws)) a → a = b0 := fun a ⟨i, xs, e1, e2⟩ => by
      cases i with
      | zero =>
        rw [st0] at e2
        cases e2
        rfl
      | succ j =>
        rw [List.getElem?_cons_succ] at e1
        exact absurd (List.mem_of_getElem? e1) (fun hm => by
          rcases List.mem_append.mp hm with z | z
          · rw [List.mem_map] at z
            obtain ⟨t, h3, h4⟩ := z
            cases h4
            exact rargs_no_ow ra xs h3
          · have := List.eq_of_mem_replicate z
            cases this)
    refine fin E0 h1 fun v σ' H' H0' T E' k' r => ?_
    have hs0 : σ'[0]? = some (some (.ref b0)) := by
      rw [k'.2 0 (by unfold okB; rw [hbox]; rfl)]
      exact st0
    obtain ⟨b1, bv', z1, z2, z3, z4⟩ := E'.ow 0 bs' (h2 hbox)
    rw [hs0] at z1; cases z1
    refine hq v H' H0' bv' ⟨T.ex, E'.ex, E'.tb, fun a o e1 nt e2 ne => T.fr' a o e1 nt e2 (fun z => ne (by rw [own0 a z])), T.kp⟩ z2 z3 z4 ?_
    cases sl with
    | im d => exact r
    | fn d => exact r.elim
    | fz d => exact r.elim
    | tt d => exact r
    | ow xs =>
      obtain ⟨a, vs', e1, g1, g2, g3, g4, g5⟩ := r
      refine ⟨a, vs', e1, g1, g2, g3, ?_⟩
      rcases g5 with z | z
      · exact absurd ⟨0, bs', h2 hbox, by rw [own0 a z]; exact hs0⟩ g4
      · exact z
/-- THE RULE for a def -/
theorem fn_ok0 {tt : Bool} (fn : Fn) {N ps : List Str} {x qual : Str} {st : Stmt} {f : Addr} {fd : FuncData} (F : Fun K x qual st f fd) (S : FnScope N ps (defScope st)) (M : MOk gl fns P w K mg base k)
    (har : fn.ar = ps.length) (hps : ps.length ≤ N.length)
    (hrun : ∀ bs as s bs', fn.run bs as = some (s, bs') → as.length + (if fn.box then 1 else 0) = ps.length → ∃ n m wf ρ', retF (runL (exs ⟨N, gl, fns, tt⟩ (evs ⟨N, gl, fns, tt⟩ n) (defScope st) (okB fn) wf m) (defBody st) (entR N fn bs as)) = some (s, ρ') ∧ (fn.box = true → ρ'[0]? = some (some (.ow bs')))) :
    FnOk P w K mg base CX0 (k + 1) f fd ps (spOf (K, mg) fn) :=
  F.ok S (fun vs H Q E h => h.1.trans har) fun cdv A outer s H vs Q E hr h =>
    body_ok fn (M.cx (tt := tt) S (qual := qual) (f := f) (cdv := cdv) (outer := outer) (H := H) (E := E) hr) har hps hrun h
theorem fn_ok {tt : Bool} (fn : Fn) {N ps : List Str} {x qual : Str} {st : Stmt} {f : Addr} {fd : FuncData} (F : Fun K x qual st f fd) (b : Binds K fd ps []) (S : FnScope N ps (defScope st)) (M : MOk gl fns P w K mg base k) (hmg : mg x = some (.ref f))
    (har : fn.ar = ps.length) (hps : ps.length ≤ N.length)
    (hrun : ∀ bs as s bs', fn.run bs as = some (s, bs') → as.length + (if fn.box then 1 else 0) = ps.length → ∃ n m wf ρ', retF (runL (exs ⟨N, gl, fns, tt⟩ (evs ⟨N, gl, fns, tt⟩ n) (defScope st) (okB fn) wf m) (defBody st) (entR N fn bs as)) = some (s, ρ') ∧ (fn.box = true → ρ'[0]? = some (some (.ow bs')))) :
    FOkP P w K mg base (k + 1) x fn := ⟨f, fd, ps, hmg, F.kp, FnOk.toCX (fn_ok0 fn F S M har hps hrun), b⟩
end
end Dv

set_option Elab.async false
set_option linter.all false
set_option maxRecDepth 100000
set_option maxHeartbeats 4000000
/-! The evaluator read into Prop, by continuation. -/
namespace Dv
open PySem PySem.Spec L2 RZ
variable [TabC]

def OKr {α : Type} (o : Option (α × Rho)) (Q : α → Rho → Prop) : Prop := ∃ a ρ', o = some (a, ρ') ∧ Q a ρ'
theorem OKr.imp {α : Type} {o : Option (α × Rho)} {Q Q' : α → Rho → Prop} (h : OKr o Q) (w : ∀ a ρ, Q a ρ → Q' a ρ) : OKr o Q' := by
  obtain ⟨a, ρ, e, q⟩ := h
  exact ⟨a, ρ, e, w a ρ q⟩
def brB (b : Bool) (P R : Prop) : Prop := (b = true → P) ∧ (b = false → R)
structure Ws where
  e : Scope → Rho → Expr → (Sl → Rho → Prop) → Prop
  t : Scope → Rho → Expr → (Bool → Rho → Prop) → Prop
def frzK (Q : D → Rho → Prop) : Sl → Rho → Prop
  | .im d, ρ => Q d ρ
  | .ow xs, ρ => Q (.list xs) ρ
  | .tt xs, ρ => Q (.tuple xs) ρ
  | _, _ => False
def Ws.d (w : Ws) (sc : Scope) (ρ : Rho) (e : Expr) (Q : D → Rho → Prop) : Prop := w.e sc ρ e (frzK Q)
structure WOk (w : Ws) (r : Evs) : Prop where
  e : ∀ sc ρ e Q, w.e sc ρ e Q → OKr (r.e sc ρ e) Q
  t : ∀ sc ρ e Q, w.t sc ρ e Q → OKr (r.t sc ρ e) Q
theorem WOk.d {w : Ws} {r : Evs} (h : WOk w r) {sc : Scope} {ρ : Rho} {e : Expr} {Q : D → Rho → Prop} (q : w.d sc ρ e Q) : OKr (r.d sc ρ e) Q := by
  obtain ⟨s, ρ', e1, q1⟩ := h.e _ _ _ _ q
  unfold Evs.d
  rw [e1]
  cases s with
  | im d => exact ⟨d, ρ', rfl, q1⟩
  | ow xs => exact ⟨.list xs, ρ', rfl, q1⟩
  | fn x => exact q1.elim
  | fz x => exact q1.elim
  | tt xs => exact ⟨.tuple xs, ρ', rfl, q1⟩

def wDs (w : Rho → Expr → (D → Rho → Prop) → Prop) : List Expr → Rho → (List D → Rho → Prop) → Prop
  | [], ρ, Q => Q [] ρ
  | e :: es, ρ, Q => cond (notStar e) (w ρ e fun d ρ1 => wDs w es ρ1 fun ds ρ2 => Q (d :: ds) ρ2) False
theorem wDs_ok {w : Rho → Expr → (D → Rho → Prop) → Prop} {ev : Rho → Expr → Option (D × Rho)} (h : ∀ ρ e Q, w ρ e Q → OKr (ev ρ e) Q) : ∀ es ρ Q, wDs w es ρ Q → OKr (evDs ev es ρ) Q
  | [], ρ, Q, q => ⟨[], ρ, rfl, q⟩
  | e :: es, ρ, Q, q => by
    unfold wDs at q
    cases hn : notStar e with
    | false => rw [hn] at q; exact q.elim
    | true =>
      rw [hn] at q
      obtain ⟨d, ρ1, e1, q1⟩ := h _ _ _ q
      obtain ⟨ds, ρ2, e2, q2⟩ := wDs_ok h es ρ1 _ q1
      refine ⟨d :: ds, ρ2, ?_, q2⟩
      simp only [evDs, hn, if_true, e1, e2]
def wBool (op : BoolOp) (w : Rho → Expr → (D → Rho → Prop) → Prop) : List Expr → Rho → (D → Rho → Prop) → Prop
  | [], _, _ => False
  | [e], ρ, Q => w ρ e Q
  | e :: e' :: es, ρ, Q => w ρ e fun d ρ1 => match d with
    | .bool c => match op with
      | .And => brB c (wBool op w (e' :: es) ρ1 Q) (Q (.bool false) ρ1)
      | .Or => brB c (Q (.bool true) ρ1) (wBool op w (e' :: es) ρ1 Q)
    | _ => False
theorem wBool_ok {op : BoolOp} {w : Rho → Expr → (D → Rho → Prop) → Prop} {ev : Rho → Expr → Option (D × Rho)} (h : ∀ ρ e Q, w ρ e Q → OKr (ev ρ e) Q) : ∀ es ρ Q, wBool op w es ρ Q → OKr (boolE op ev es ρ) Q
  | [], ρ, Q, q => q.elim
  | [e], ρ, Q, q => h _ _ _ q
  | e :: e' :: es, ρ, Q, q => by
    obtain ⟨d, ρ1, e1, q1⟩ := h _ _ _ q
    cases d <;> try exact q1.elim
    rename_i c
    cases op <;> cases c <;> simp only [boolE, e1]
    · exact ⟨_, _, rfl, q1.2 rfl⟩
    · exact wBool_ok h _ _ _ (q1.1 rfl)
    · exact wBool_ok h _ _ _ (q1.2 rfl)
    · exact ⟨_, _, rfl, q1.1 rfl⟩
def wBoolT (op : BoolOp) (w : Rho → Expr → (Bool → Rho → Prop) → Prop) : List Expr → Rho → (Bool → Rho → Prop) → Prop
  | [], _, _ => False
  | [e], ρ, Q => w ρ e Q
  | e :: e' :: es, ρ, Q => w ρ e fun c ρ1 => match op with
      | .And => brB c (wBoolT op w (e' :: es) ρ1 Q) (Q false ρ1)
      | .Or => brB c (Q true ρ1) (wBoolT op w (e' :: es) ρ1 Q)
theorem wBoolT_ok {op : BoolOp} {w : Rho → Expr → (Bool → Rho → Prop) → Prop} {ev : Rho → Expr → Option (Bool × Rho)} (h : ∀ ρ e Q, w ρ e Q → OKr (ev ρ e) Q) : ∀ es ρ Q, wBoolT op w es ρ Q → OKr (boolTE op ev es ρ) Q
  | [], ρ, Q, q => q.elim
  | [e], ρ, Q, q => h _ _ _ q
  | e :: e' :: es, ρ, Q, q => by
    obtain ⟨c, ρ1, e1, q1⟩ := h _ _ _ q
    cases op <;> cases c <;> simp only [boolTE, e1]
    · exact ⟨_, _, rfl, q1.2 rfl⟩
    · exact wBoolT_ok h _ _ _ (q1.1 rfl)
    · exact wBoolT_ok h _ _ _ (q1.2 rfl)
    · exact ⟨_, _, rfl, q1.1 rfl⟩
section
variable {w : Rho → Expr → (D → Rho → Prop) → Prop} {ev : Rho → Expr → Option (D × Rho)}
def wCmp (op : CmpOp) (w : Rho → Expr → (D → Rho → Prop) → Prop) (a b : Expr) (ρ : Rho) (Q : Bool → Rho → Prop) : Prop :=
  w ρ a fun x ρ1 => w ρ1 b fun y ρ2 => cond (behindInMarks op b) False (∃ c, cmpD op x y = some c ∧ Q c ρ2)
theorem wCmp_ok (h : ∀ ρ e Q, w ρ e Q → OKr (ev ρ e) Q) {op : CmpOp} {a b : Expr} {ρ : Rho} {Q : Bool → Rho → Prop} (q : wCmp op w a b ρ Q) : OKr (cmpE op b (fun ρ => ev ρ a) (fun ρ => ev ρ b) ρ) Q := by
  obtain ⟨x, ρ1, e1, q1⟩ := h _ _ _ q
  obtain ⟨y, ρ2, e2, q2⟩ := h _ _ _ q1
  cases hm : behindInMarks op b with
  | true => rw [hm] at q2; exact q2.elim
  | false =>
    rw [hm] at q2
    obtain ⟨c, e3, q3⟩ := q2
    refine ⟨c, ρ2, ?_, q3⟩
    simp only [cmpE, e1, e2, hm, e3]
    rfl
def wChain (op op' : CmpOp) (w : Rho → Expr → (D → Rho → Prop) → Prop) (a b c : Expr) (ρ : Rho) (Q : Bool → Rho → Prop) : Prop :=
  w ρ a fun x ρ1 => w ρ1 b fun y ρ2 => cond (lastMarks [op, op'] [b, c]) False (∃ t, cmpD op x y = some t ∧ brB t (w ρ2 c fun z ρ3 => ∃ u, cmpD op' y z = some u ∧ Q u ρ3) (Q false ρ2))
theorem wChain_ok (h : ∀ ρ e Q, w ρ e Q → OKr (ev ρ e) Q) {op op' : CmpOp} {a b c : Expr} {ρ : Rho} {Q : Bool → Rho → Prop} (q : wChain op op' w a b c ρ Q) : OKr (chainE op op' b c (fun ρ => ev ρ a) (fun ρ => ev ρ b) (fun ρ => ev ρ c) ρ) Q := by
  obtain ⟨x, ρ1, e1, q1⟩ := h _ _ _ q
  obtain ⟨y, ρ2, e2, q2⟩ := h _ _ _ q1
  cases hm : lastMarks [op, op'] [b, c] with
  | true => rw [hm] at q2; exact q2.elim
  | false =>
    rw [hm] at q2
    obtain ⟨t, e3, q3⟩ := q2
    cases t with
    | false =>
      refine ⟨false, ρ2, ?_, q3.2 rfl⟩
      simp only [chainE, e1, e2, hm, e3]
      rfl
    | true =>
      obtain ⟨z, ρ3, e4, u, e5, q5⟩ := h _ _ _ (q3.1 rfl)
      refine ⟨u, ρ3, ?_, q5⟩
      simp only [chainE, e1, e2, hm, e3, e4, e5]
      rfl
/-- what is walked -/
def wIt (sc : Scope) (w : Rho → Expr → (D → Rho → Prop) → Prop) (tg iter : Expr) (ρ : Rho) (Q : List D → Rho → Prop) : Prop :=
  match srcOf sc tg iter with
  | .plain e => w ρ e fun d ρ1 => match d with
    | .list xs => Q xs ρ1
    | .tuple xs => Q xs ρ1
    | _ => False
  | .range a _ _ => cond (notStar a) (w ρ a fun d ρ1 => match d with
      | .int j => (j < 2 ^ 62 ∧ -(2 ^ 62) ≤ j) ∧ Q (rangeD j.toNat) ρ1
      | _ => False) False
  | .enum a _ _ => cond (notStar a) (w ρ a fun d ρ1 => match d with
      | .list xs => Q (enumD 0 xs) ρ1
      | .tuple xs => Q (enumD 0 xs) ρ1
      | _ => False) False
  | .zip a b _ _ => cond (notStar a && notStar b) (wDs w [a, b] ρ fun ds ρ1 => match ds with
      | [.list xs, .list ys] => Q (zipD xs ys) ρ1
      | [.tuple xs, .tuple ys] => Q (zipD xs ys) ρ1
      | [.list xs, .tuple ys] => Q (zipD xs ys) ρ1
      | [.tuple xs, .list ys] => Q (zipD xs ys) ρ1
      | _ => False) False
theorem wIt_ok (h : ∀ ρ e Q, w ρ e Q → OKr (ev ρ e) Q) {sc : Scope} {tg iter : Expr} {ρ : Rho} {Q : List D → Rho → Prop} (q : wIt sc w tg iter ρ Q) : OKr (itE sc ev tg iter ρ) Q := by
  unfold wIt at q
  unfold itE
  cases hs : srcOf sc tg iter with
  | plain e =>
    rw [hs] at q
    obtain ⟨d, ρ1, e1, q1⟩ := h _ _ _ q
    simp only [e1]
    cases d <;> first | exact q1.elim | exact ⟨_, _, rfl, q1⟩
  | range a p1 p2 =>
    rw [hs] at q
    dsimp only at q ⊢
    cases hn : notStar a with
    | false => rw [hn] at q; exact q.elim
    | true =>
      rw [hn] at q
      obtain ⟨d, ρ1, e1, q1⟩ := h _ _ _ q
      simp only [e1, if_true]
      cases d <;> first | exact q1.elim | skip
      rename_i j
      refine ⟨_, _, ?_, q1.2⟩
      simp only [if_pos q1.1]
  | enum a p1 p2 =>
    rw [hs] at q
    dsimp only at q ⊢
    cases hn : notStar a with
    | false => rw [hn] at q; exact q.elim
    | true =>
      rw [hn] at q
      obtain ⟨d, ρ1, e1, q1⟩ := h _ _ _ q
      simp only [e1, if_true]
      cases d <;> first | exact q1.elim | exact ⟨_, _, rfl, q1⟩
  | zip a b p1 p2 =>
    rw [hs] at q
    dsimp only at q ⊢
    cases hn : (notStar a && notStar b) with
    | false => rw [hn] at q; exact q.elim
    | true =>
      rw [hn] at q
      obtain ⟨ds, ρ1, e1, q1⟩ := wDs_ok h _ _ _ q
      simp only [e1]
      split at q1
      · exact ⟨_, _, by simp, q1⟩
      · exact ⟨_, _, by simp, q1⟩
      · exact ⟨_, _, by simp, q1⟩
      · exact ⟨_, _, by simp, q1⟩
      · exact q1.elim
end
end Dv

set_option Elab.async false
set_option linter.all false
set_option maxRecDepth 100000
set_option maxHeartbeats 4000000
namespace Dv
open PySem PySem.Spec L2 RZ
variable [TabC]

/-! ### calls -/
def argK (Q : Arg → Rho → Prop) : Sl → Rho → Prop
  | .im d, ρ => Q (.v (.im d)) ρ
  | .ow xs, ρ => Q (.v (.im (.list xs))) ρ
  | .fn x, ρ => Q (.v (.fn x)) ρ
  | .fz x, ρ => Q (.v (.fz x)) ρ
  | .tt x, ρ => Q (.v (.tt x)) ρ
theorem argK_eq {Q : Arg → Rho → Prop} {s : Sl} {ρ : Rho} (h : argK Q s ρ) : ∃ a, toArg (some (s, ρ)) = some (a, ρ) ∧ Q a ρ := by
  cases s <;> exact ⟨_, rfl, h⟩
def wArgs (ln : Bool) (C : Cf) (sc : Scope) (w : Rho → Expr → (Sl → Rho → Prop) → Prop) : List Expr → Rho → (List Arg → Rho → Prop) → Prop
  | [], ρ, Q => Q [] ρ
  | e :: es, ρ, Q => cond (notStar e) (match (if ln then lend C sc ρ e else none) with
    | some i => wArgs ln C sc w es ρ fun as ρ2 => Q (.br i :: as) ρ2
    | none => w ρ e (argK fun a ρ1 => wArgs ln C sc w es ρ1 fun as ρ2 => Q (a :: as) ρ2)) False
theorem wArgs_ok {ln : Bool} {C : Cf} {sc : Scope} {w : Rho → Expr → (Sl → Rho → Prop) → Prop} {ev : Rho → Expr → Option (Sl × Rho)} (h : ∀ ρ e Q, w ρ e Q → OKr (ev ρ e) Q) :
    ∀ es ρ Q, wArgs ln C sc w es ρ Q → OKr (argsE ln C sc ev es ρ) Q
  | [], ρ, Q, q => ⟨[], ρ, rfl, q⟩
  | e :: es, ρ, Q, q => by
    unfold wArgs at q
    cases hn : notStar e with
    | false => rw [hn] at q; exact q.elim
    | true =>
      rw [hn] at q
      simp only [cond_true] at q
      cases hl : (if ln then lend C sc ρ e else none) with
      | some i =>
        rw [hl] at q
        obtain ⟨as, ρ2, e2, q2⟩ := wArgs_ok h es ρ _ q
        refine ⟨.br i :: as, ρ2, ?_, q2⟩
        simp only [argsE, hn, if_true, argE, hl, e2]
      | none =>
        rw [hl] at q
        obtain ⟨s, ρ1, e1, q1⟩ := h _ _ _ q
        obtain ⟨a, e3, q3⟩ := argK_eq q1
        obtain ⟨as, ρ2, e2, q2⟩ := wArgs_ok h es ρ1 _ q3
        refine ⟨a :: as, ρ2, ?_, q2⟩
        simp only [argsE, hn, if_true, argE, hl, e1, e3, e2]
theorem args_plain {C : Cf} {sc : Scope} {ev : Rho → Expr → Option (Sl × Rho)} : ∀ {es : List Expr} {ρ ρ' : Rho} {as : List Arg}, argsE true C sc ev es ρ = some (as, ρ') → brs as = [] → argsE false C sc ev es ρ = some (as, ρ')
  | [], ρ, ρ', as, h, _ => h
  | e :: es, ρ, ρ', as, h, hb => by
    simp only [argsE] at h ⊢
    split at h
    · rename_i hn
      rw [if_pos hn]
      split at h
      · rename_i d ρ1 h1
        split at h
        · rename_i ds ρ2 h2
          cases h
          unfold argE at h1 ⊢
          split at h1
          · cases h1
            simp [brs] at hb
          · have hb' : brs ds = [] := by
              cases d with
              | v s => exact hb
              | br i => simp [brs] at hb
            simp only [Bool.false_eq_true, if_false, h1, args_plain h2 hb']
        · cases h
      · cases h
    · cases h
def wRun (fn : Fn) (bs : List D) (as : List Sl) (Q : Sl → List D → Prop) : Prop := ∃ s bs', fn.run bs as = some (s, bs') ∧ Q s bs'
def wGive (C : Cf) (sc : Scope) (w : Rho → Expr → (Sl → Rho → Prop) → Prop) (fn : Fn) (es : List Expr) (ρ : Rho) (Q : Sl → Rho → Prop) : Prop :=
  wArgs false C sc w es ρ fun as ρ1 => as.length = fn.ar ∧ wRun fn [] (as.map (sub1 [])) fun s bs' => bs' = [] ∧ Q s ρ1
def wUser (C : Cf) (sc : Scope) (w : Rho → Expr → (Sl → Rho → Prop) → Prop) (fn : Fn) (es : List Expr) (ρ : Rho) (Q : Sl → Rho → Prop) : Prop :=
  cond fn.box (match es with
    | e0 :: es' => match lend C sc ρ e0 with
      | some i => wArgs false C sc w es' ρ fun as ρ1 => match ρ1[i]? with
        | some (some (.ow bs)) => as.length + 1 = fn.ar ∧ wRun fn bs (as.map (sub1 [])) fun s bs' => Q s (ρ1.set i (some (.ow bs')))
        | _ => False
      | none => False
    | [] => False)
  (wArgs true C sc w es ρ fun as ρ1 => match brs as with
    | [] => as.length = fn.ar ∧ wRun fn [] (as.map (sub1 [])) fun s bs' => bs' = [] ∧ Q s ρ1
    | [i] => match ρ1[i]? with
      | some (some (.ow xs)) => as.length = fn.ar ∧ wRun fn [] (as.map (sub1 xs)) fun s bs' => bs' = [] ∧ match s with
        | .im d => noList d = true ∧ Q (.im d) ρ1
        | .ow _ => wGive C sc w fn es ρ Q
        | _ => False
      | _ => False
    | _ => False)
theorem wGive_ok {C : Cf} {sc : Scope} {w : Rho → Expr → (Sl → Rho → Prop) → Prop} {ev : Rho → Expr → Option (Sl × Rho)} (h : ∀ ρ e Q, w ρ e Q → OKr (ev ρ e) Q) {fn : Fn} {es : List Expr} {ρ : Rho} {Q : Sl → Rho → Prop}
    (q : wGive C sc w fn es ρ Q) : OKr (givE C sc ev fn es ρ) Q := by
  obtain ⟨as, ρ1, e1, hl, s, bs', e2, rfl, q2⟩ := wArgs_ok h _ _ _ q
  refine ⟨s, ρ1, ?_, q2⟩
  simp only [givE, e1, if_pos hl, e2]
theorem wUser_ok {C : Cf} {sc : Scope} {w : Rho → Expr → (Sl → Rho → Prop) → Prop} {ev : Rho → Expr → Option (Sl × Rho)} (h : ∀ ρ e Q, w ρ e Q → OKr (ev ρ e) Q) {fn : Fn} {es : List Expr} {ρ : Rho} {Q : Sl → Rho → Prop}
    (q : wUser C sc w fn es ρ Q) : OKr (userE C sc ev fn es ρ) Q := by
  unfold wUser at q
  unfold userE
  cases hb : fn.box with
  | true =>
    rw [hb] at q
    simp only [if_true, cond_true] at q ⊢
    cases es with
    | nil => exact q.elim
    | cons e0 es =>
      dsimp only at q ⊢
      unfold boxE
      cases hl : lend C sc ρ e0 with
      | none => rw [hl] at q; exact q.elim
      | some i =>
        rw [hl] at q
        obtain ⟨as, ρ1, e1, q1⟩ := wArgs_ok h _ _ _ q
        split at q1
        · rename_i bs hbs
          obtain ⟨hlen, s, bs', e2, q2⟩ := q1
          refine ⟨s, _, ?_, q2⟩
          simp only [e1, hbs, if_pos hlen, e2]
        · exact q1.elim
  | false =>
    rw [hb] at q
    simp only [cond_false, Bool.false_eq_true, if_false] at q ⊢
    obtain ⟨as, ρ1, e1, q1⟩ := wArgs_ok h _ _ _ q
    split at q1
    · rename_i hbr
      obtain ⟨hlen, s, bs', e2, rfl, q2⟩ := q1
      have e3 : lenE C sc ev fn es ρ = none := by
        simp only [lenE, e1, if_pos hlen, hbr]
      have e4 : givE C sc ev fn es ρ = some (s, ρ1) := by
        simp only [givE, args_plain e1 hbr, if_pos hlen, e2]
      exact ⟨s, ρ1, by simp only [e3, e4], q2⟩
    · rename_i i hbr
      split at q1
      · rename_i xs hxs
        obtain ⟨hlen, s, bs', e2, rfl, q2⟩ := q1
        split at q2
        · rename_i d
          have e3 : lenE C sc ev fn es ρ = some (.im d, ρ1) := by
            simp only [lenE, e1, if_pos hlen, hbr, hxs, e2, q2.1, if_true]
          exact ⟨.im d, ρ1, by simp only [e3], q2.2⟩
        · rename_i ys
          have e3 : lenE C sc ev fn es ρ = none := by
            simp only [lenE, e1, if_pos hlen, hbr, hxs, e2]
          obtain ⟨s4, ρ4, e4, q4⟩ := wGive_ok h q2
          exact ⟨s4, ρ4, by simp only [e3, e4], q4⟩
        · exact q2.elim
      · exact q1.elim
    · exact q1.elim
def wCall (C : Cf) (w : Ws) (r : Evs) (sc : Scope) (ρ : Rho) (f : Str) (es : List Expr) (Q : Sl → Rho → Prop) : Prop :=
  match lenE' C sc ρ f es with
  | some q => Q (.im q.1) q.2
  | none => match isiE' r sc ρ f es with
    | some q => Q (.im q.1) q.2
    | none => cond (es.all notStar && !es.isEmpty) (match slotE C sc f with
      | some i => match ρ[i]? with
        | some (some (.fn y)) => match C.fns y with
          | some fn => cond fn.box False (wGive C sc (w.e sc) fn es ρ Q)
          | none => False
        | _ => False
      | none => cond (globB sc f && plainName f) (match bltV f with
        | some _ => wDs (w.d sc) es ρ fun ds ρ1 => ∃ s, bltD f ds = some s ∧ Q s ρ1
        | none => match C.fns f with
          | some fn => wUser C sc (w.e sc) fn es ρ Q
          | none => False) False) False
theorem wCall_ok {C : Cf} {w : Ws} {r : Evs} (W : WOk w r) {sc : Scope} {ρ : Rho} {f : Str} {es : List Expr} {Q : Sl → Rho → Prop} (q : wCall C w r sc ρ f es Q) : OKr (callE C r sc ρ f es) Q := by
  unfold wCall at q
  unfold callE
  split at q
  · rename_i p hp
    exact ⟨_, _, by simp only [hp], q⟩
  · rename_i hp
    try simp only [hp]
    split at q
    · rename_i p' hp'
      exact ⟨_, _, by simp only [hp'], q⟩
    · rename_i hp'
      try simp only [hp']
      cases hc : (es.all notStar && !es.isEmpty) with
      | false => rw [hc] at q; exact q.elim
      | true =>
        rw [hc] at q
        simp only [cond_true] at q
        have hc' : es.all notStar = true ∧ es ≠ [] := by
          simp only [Bool.and_eq_true, Bool.not_eq_true'] at hc
          exact ⟨hc.1, fun z => by rw [z] at hc; simp at hc⟩
        rw [if_pos hc']
        split at q
        · rename_i i hi
          try simp only [hi]
          split at q
          · rename_i y hy
            try simp only [hy]
            split at q
            · rename_i fn hfn
              try simp only [hfn]
              cases hb : fn.box with
              | true => rw [hb] at q; exact q.elim
              | false =>
                rw [hb] at q
                simp only [Bool.false_eq_true, if_false]
                exact wGive_ok (W.e sc) q
            · exact q.elim
          · exact q.elim
        · rename_i hi
          try simp only [hi]
          cases hg : (globB sc f && plainName f) with
          | false => rw [hg] at q; exact q.elim
          | true =>
            rw [hg] at q
            simp only [cond_true] at q
            rw [if_pos (by simpa using hg)]
            split at q
            · rename_i v hv
              try simp only [hv]
              obtain ⟨ds, ρ1, e1, s, e2, q2⟩ := wDs_ok (ev := r.d sc) (fun ρ e Q => W.d) _ _ _ q
              exact ⟨s, ρ1, by simp only [bltE, e1, e2], q2⟩
            · rename_i hv
              try simp only [hv]
              split at q
              · rename_i fn hfn
                try simp only [hfn]
                exact wUser_ok (W.e sc) q
              · exact q.elim
/-! ### subscripts, comprehensions -/
def wSub (C : Cf) (w : Ws) (sc : Scope) (ρ : Rho) (a b : Expr) (Q : D → Rho → Prop) : Prop := cond (notSlice b)
  (match (match a with | .Name x _ => slotE C sc x | _ => none) with
    | some i => match ρ[i]? with
      | some (some (.ow _)) => w.d sc ρ b fun y ρ2 => match y with
        | .int j => match ρ2[i]? with
          | some (some (.ow xs)) => ∃ d, atI xs j = some d ∧ Q d ρ2
          | _ => False
        | _ => False
      | some (some (.fz _)) => w.d sc ρ b fun y ρ2 => match y with
        | .int j => match ρ2[i]? with
          | some (some (.fz ns)) => ∃ n, atI ns j = some n ∧ Q (.int n) ρ2
          | _ => False
        | _ => False
      | _ => w.d sc ρ a fun x ρ1 => w.d sc ρ1 b fun y ρ2 => ∃ d, ixD x y = some d ∧ Q d ρ2
    | none => w.d sc ρ a fun x ρ1 => w.d sc ρ1 b fun y ρ2 => ∃ d, ixD x y = some d ∧ Q d ρ2) False
theorem ixE_ok {w : Ws} {r : Evs} (W : WOk w r) {sc : Scope} {ρ : Rho} {a b : Expr} {Q : D → Rho → Prop} (q : w.d sc ρ a fun x ρ1 => w.d sc ρ1 b fun y ρ2 => ∃ d, ixD x y = some d ∧ Q d ρ2) :
    OKr (ixE (fun ρ => r.d sc ρ a) (fun ρ => r.d sc ρ b) ρ) Q := by
  obtain ⟨x, ρ1, e1, q1⟩ := W.d q
  obtain ⟨y, ρ2, e2, d, e3, q3⟩ := W.d q1
  exact ⟨d, ρ2, by simp only [ixE, e1, e2, e3], q3⟩
theorem wSub_ok {C : Cf} {w : Ws} {r : Evs} (W : WOk w r) {sc : Scope} {ρ : Rho} {a b : Expr} {Q : D → Rho → Prop} (q : wSub C w sc ρ a b Q) : OKr (subE C r sc ρ a b) Q := by
  unfold wSub at q
  unfold subE
  cases hn : notSlice b with
  | false => rw [hn] at q; exact q.elim
  | true =>
    rw [hn] at q
    simp only [cond_true] at q
    simp only [Bool.true_eq_false, if_false]
    have gen : ∀ {o : Option (D × Rho)}, o = none → (w.d sc ρ a fun x ρ1 => w.d sc ρ1 b fun y ρ2 => ∃ d, ixD x y = some d ∧ Q d ρ2) →
        OKr (match o with | some q => some q | none => ixE (fun ρ => r.d sc ρ a) (fun ρ => r.d sc ρ b) ρ) Q := fun {o} ho q' => by
      subst ho
      exact ixE_ok W q'
    cases a with
    | Name x px =>
      dsimp only at q ⊢
      cases hi : slotE C sc x with
      | none =>
        rw [hi] at q
        exact ixE_ok W q
      | some i =>
        rw [hi] at q
        dsimp only at q ⊢
        split at q
        · rename_i xs0 hx0
          obtain ⟨y, ρ2, e2, q2⟩ := W.d q
          split at q2
          · rename_i j
            split at q2
            · rename_i xs hx
              obtain ⟨d, e3, q3⟩ := q2
              exact ⟨d, ρ2, by simp only [ixO, hx0, e2, hx, e3], q3⟩
            · exact q2.elim
          · exact q2.elim
        · rename_i xs0 hx0
          obtain ⟨y, ρ2, e2, q2⟩ := W.d q
          split at q2
          · rename_i j
            split at q2
            · rename_i xs hx
              obtain ⟨d, e3, q3⟩ := q2
              exact ⟨.int d, ρ2, by simp only [ixO, hx0, e2, hx, e3], q3⟩
            · exact q2.elim
          · exact q2.elim
        · rename_i h1 h2
          refine gen ?_ q
          unfold ixO
          split
          · rename_i z hz; exact absurd hz (h1 z)
          · rename_i z hz; exact absurd hz (h2 z)
          · rfl
    | _ => exact ixE_ok W q
end Dv

set_option Elab.async false
set_option linter.all false
set_option maxRecDepth 100000
set_option maxHeartbeats 4000000
namespace Dv
open PySem PySem.Spec L2 RZ
variable [TabC]

def wComp (C : Cf) (sc scope : Scope) (w : Rho → Expr → (D → Rho → Prop) → Prop) (evI : Rho → Expr → Option (D × Rho)) (etI : Rho → Expr → Option (Bool × Rho)) (elt tg iter : Expr) (ifs : List Expr) (ρ : Rho) (Q : List D → Rho → Prop) : Prop :=
  cond (blkC C.N sc scope (ownOf C.N scope) && (notSet iter && offB C scope sc) && decide (ifs.length ≤ 1)) (wIt sc w tg iter ρ fun its ρ1 => cond (noOwn ρ1 ((ownOf C.N scope).map (·.2)))
    (∃ acc ρ2, loopE ((ownOf C.N scope).map (·.2)) (tgtE C (mBlk scope) (fun i => ((ownOf C.N scope).map (·.2)).contains i) (relS scope sc) evI 8 tg) (ifsE etI ifs) (fun ρ => evI ρ elt) its (wipeR ρ1 ((ownOf C.N scope).map (·.2))) [] = some (acc, ρ2) ∧
      Q acc (mixR ρ1 ρ2 ((ownOf C.N scope).map (·.2)))) False) False
def wComp2 (C : Cf) (sc scope : Scope) (w : Rho → Expr → (D → Rho → Prop) → Prop) (evI : Rho → Expr → Option (D × Rho)) (elt tg iter tg1 iter1 : Expr) (ρ : Rho) (Q : List D → Rho → Prop) : Prop :=
  cond (blkC C.N sc scope (ownOf C.N scope) && (notSet iter && notSet iter1 && offB C scope sc) && (tgN C.N tg1).all (fun i => ((ownOf C.N scope).map (·.2)).contains i)) (wIt sc w tg iter ρ fun its ρ1 => cond (noOwn ρ1 ((ownOf C.N scope).map (·.2)))
    (∃ acc ρ2, loop2E ((ownOf C.N scope).map (·.2)) (tgN C.N tg1) (tgtE C (mBlk scope) (fun i => ((ownOf C.N scope).map (·.2)).contains i) (relS scope sc) evI 8 tg) (itE (relS scope sc) evI tg1 iter1) (tgtE C (mBlk scope) (fun i => (tgN C.N tg1).contains i) (relS scope sc) evI 8 tg1) (fun ρ => evI ρ elt) its (wipeR ρ1 ((ownOf C.N scope).map (·.2))) [] = some (acc, ρ2) ∧
      Q acc (mixR ρ1 ρ2 ((ownOf C.N scope).map (·.2)))) False) False
theorem wComp2_ok {C : Cf} {sc scope : Scope} {w : Rho → Expr → (D → Rho → Prop) → Prop} {ev evI : Rho → Expr → Option (D × Rho)} (h : ∀ ρ e Q, w ρ e Q → OKr (ev ρ e) Q) {elt tg iter tg1 iter1 : Expr} {ρ : Rho} {Q : List D → Rho → Prop}
    (q : wComp2 C sc scope w evI elt tg iter tg1 iter1 ρ Q) : ∃ acc ρ', comp2E C sc scope ev evI elt tg iter tg1 iter1 ρ = some (.ow acc, ρ') ∧ Q acc ρ' := by
  unfold wComp2 at q
  cases hb : (blkC C.N sc scope (ownOf C.N scope) && (notSet iter && notSet iter1 && offB C scope sc) && (tgN C.N tg1).all (fun i => ((ownOf C.N scope).map (·.2)).contains i)) with
  | false => rw [hb] at q; exact q.elim
  | true =>
    rw [hb] at q
    obtain ⟨its, ρ1, e1, q1⟩ := wIt_ok h q
    cases hn : noOwn ρ1 ((ownOf C.N scope).map (·.2)) with
    | false => rw [hn] at q1; exact q1.elim
    | true =>
      rw [hn] at q1
      obtain ⟨acc, ρ2, e2, q2⟩ := q1
      refine ⟨acc, _, ?_, q2⟩
      unfold comp2E
      dsimp only
      rw [if_pos hb, e1]
      dsimp only
      rw [if_pos hn, e2]
theorem wComp_ok {C : Cf} {sc scope : Scope} {w : Rho → Expr → (D → Rho → Prop) → Prop} {ev evI : Rho → Expr → Option (D × Rho)} {etI : Rho → Expr → Option (Bool × Rho)} (h : ∀ ρ e Q, w ρ e Q → OKr (ev ρ e) Q) {elt tg iter : Expr} {ifs : List Expr} {ρ : Rho} {Q : List D → Rho → Prop}
    (q : wComp C sc scope w evI etI elt tg iter ifs ρ Q) : ∃ acc ρ', compE C sc scope ev evI etI elt tg iter ifs ρ = some (.ow acc, ρ') ∧ Q acc ρ' := by
  unfold wComp at q
  cases hb : (blkC C.N sc scope (ownOf C.N scope) && (notSet iter && offB C scope sc) && decide (ifs.length ≤ 1)) with
  | false => rw [hb] at q; exact q.elim
  | true =>
    rw [hb] at q
    obtain ⟨its, ρ1, e1, q1⟩ := wIt_ok h q
    cases hn : noOwn ρ1 ((ownOf C.N scope).map (·.2)) with
    | false => rw [hn] at q1; exact q1.elim
    | true =>
      rw [hn] at q1
      obtain ⟨acc, ρ2, e2, q2⟩ := q1
      refine ⟨acc, _, ?_, q2⟩
      unfold compE
      dsimp only
      rw [if_pos hb]
      simp only [e1]
      rw [if_pos hn]
      simp only [e2]
def wStepE0 (C : Cf) (w : Ws) (r : Evs) (sc : Scope) (ρ : Rho) (e : Expr) (Q : Sl → Rho → Prop) : Prop := match e with
  | .Constant c _ _ => match constE c with
    | some d => Q (.im d) ρ
    | none => False
  | .Name x _ => match nameE C sc x ρ with
    | some q => Q q.1 q.2
    | none => False
  | .Tuple es _ _ => wDs (w.d sc) es ρ fun ds ρ' => ds.length ≤ 100000 ∧ Q (.im (.tuple ds)) ρ'
  | .List [.Starred a _, b] _ => cond (notStar b) (w.d sc ρ a fun d ρ1 => match d with
      | .list xs => w.d sc ρ1 b fun y ρ2 => xs.length ≤ 1000 ∧ Q (.ow (xs ++ [y])) ρ2
      | .tuple xs => w.d sc ρ1 b fun y ρ2 => xs.length ≤ 1000 ∧ Q (.ow (xs ++ [y])) ρ2
      | _ => False) False
  | .List es _ => wDs (w.d sc) es ρ fun ds ρ' => ds.length ≤ 100000 ∧ Q (.ow ds) ρ'
  | .BinOp a op b _ => w.d sc ρ a fun x ρ1 => w.d sc ρ1 b fun y ρ2 => ∃ s, binD op x y = some s ∧ Q s ρ2
  | .UnaryOp .Not a _ => w.d sc ρ a fun d ρ1 => ∃ t, truD d = some t ∧ Q (.im (.bool (!t))) ρ1
  | .BoolOp op es _ => wBool op (w.d sc) es ρ fun d ρ1 => Q (.im d) ρ1
  | .Compare a [op] [b] _ => wCmp op (w.d sc) a b ρ fun t ρ1 => Q (.im (.bool t)) ρ1
  | .Compare a [op, op'] [b, c] _ => wChain op op' (w.d sc) a b c ρ fun t ρ1 => Q (.im (.bool t)) ρ1
  | .IfExp c a b _ => w.t sc ρ c fun t ρ1 => brB t (w.e sc ρ1 a Q) (w.e sc ρ1 b Q)
  | .Subscript a (.Slice lo hi none _) _ => w.d sc ρ a fun d ρ1 => ∃ l ρ2, partE (r.d sc) lo ρ1 = some (l, ρ2) ∧ ∃ u ρ3, partE (r.d sc) hi ρ2 = some (u, ρ3) ∧ ∃ s, slcD d l u = some s ∧ Q s ρ3
  | .Subscript a (.Slice none none (some st) _) _ => w.d sc ρ a fun d ρ1 => match d with
      | .tuple xs => w.d sc ρ1 st fun y ρ2 => match y with
        | .int j => j = -1 ∧ Q (.im (.tuple xs.reverse)) ρ2
        | _ => False
      | _ => False
  | .Subscript a b _ => wSub C w sc ρ a b fun d ρ1 => Q (.im d) ρ1
  | .Call (.Name f _) [.SetComp elt [⟨tg, iter, ifs, 0⟩] scope _] [] _ => cond (decide (f = "sorted") && globB sc "sorted") (wComp C sc scope (w.d sc) (r.d (relS scope sc)) (r.t (relS scope sc)) elt tg iter ifs ρ fun acc ρ' => ∃ ns, asInts acc = some ns ∧ acc.length < 60 ∧ Q (.ow ((usort ns).map .int)) ρ') False
  | .Call (.Name f _) [.Call (.Name g pg) [a] [] pc] [] _ => cond (decide (f = "tuple") && decide (g = "range") && globB sc "tuple" && globB sc "range" && notStar a) (w.d sc ρ a fun d ρ1 => match d with
      | .int n => (0 ≤ n ∧ n ≤ 100000) ∧ Q (.im (.tuple (rangeD n.toNat))) ρ1
      | _ => False) (cond (decide (f = "sorted") && decide (g = "set") && globB sc "sorted" && globB sc "set" && notStar a) (w.d sc ρ a fun d ρ1 => match d with
      | .list xs => ∃ ns, asInts xs = some ns ∧ xs.length < 60 ∧ Q (.ow ((usort ns).map .int)) ρ1
      | .tuple xs => ∃ ns, asInts xs = some ns ∧ xs.length < 60 ∧ Q (.ow ((usort ns).map .int)) ρ1
      | _ => False) (wCall C w r sc ρ f [.Call (.Name g pg) [a] [] pc] Q))
  | .Call (.Name f _) [.Name y py] [] _ => cond (tupC C sc f) (w.d sc ρ (.Name y py) fun d ρ1 => match d with
      | .list xs => Q (.tt xs) ρ1
      | _ => False) (wCall C w r sc ρ f [.Name y py] Q)
  | .Call (.Attribute (.Name x _) m apos) [b] [] cpos => cond (decide (m = "count") && (apos.endLine == cpos.line) && notStar b) (match slotE C sc x with
      | some i => match ρ[i]? with
        | some (some (.tt ds)) => w.d sc ρ b fun d ρ1 => (flatD d = true ∧ ds.all flatD = true) ∧ Q (.im (.int (cntD d ds : Nat))) ρ1
        | some (some (.im (.tuple ds))) => w.d sc ρ b fun d ρ1 => (flatD d = true ∧ ds.all flatD = true) ∧ Q (.im (.int (cntD d ds : Nat))) ρ1
        | _ => False
      | none => False) False
  | .Call (.Name f _) es [] _ => wCall C w r sc ρ f es Q
  | .ListComp elt [⟨tg, iter, ifs, 0⟩] scope _ => wComp C sc scope (w.d sc) (r.d (relS scope sc)) (r.t (relS scope sc)) elt tg iter ifs ρ fun acc ρ' => Q (.ow acc) ρ'
  | .ListComp elt [⟨tg, iter, [], 0⟩, ⟨tg1, iter1, [], 0⟩] scope _ => wComp2 C sc scope (w.d sc) (r.d (relS scope sc)) elt tg iter tg1 iter1 ρ fun acc ρ' => Q (.ow acc) ρ'
  | e => OKr (stepE0 C r sc ρ e) Q
def wStepT (C : Cf) (w : Ws) (r : Evs) (sc : Scope) (ρ : Rho) (e : Expr) (Q : Bool → Rho → Prop) : Prop := match e with
  | .UnaryOp .Not a _ => w.t sc ρ a fun t ρ1 => Q (!t) ρ1
  | .BoolOp op es _ => wBoolT op (w.t sc) es ρ Q
  | .Compare a [op] [b] _ => wCmp op (w.d sc) a b ρ Q
  | .Compare a [op, op'] [b, c] _ => wChain op op' (w.d sc) a b c ρ Q
  | e => cond (plainTest e) (w.d sc ρ e fun d ρ1 => ∃ t, truD d = some t ∧ Q t ρ1) False
theorem OKr.im {o : Option (D × Rho)} {Q : Sl → Rho → Prop} (h : OKr o fun d ρ => Q (.im d) ρ) : OKr (imE o) Q := by
  obtain ⟨d, ρ', e, q⟩ := h
  exact ⟨.im d, ρ', by rw [e]; rfl, q⟩
theorem OKr.toD {ev : Rho → Option (Bool × Rho)} {ρ : Rho} {Q : D → Rho → Prop} (h : OKr (ev ρ) fun t ρ => Q (.bool t) ρ) : OKr (Dv.toD ev ρ) Q := by
  obtain ⟨t, ρ', e, q⟩ := h
  exact ⟨.bool t, ρ', by unfold Dv.toD; rw [e]; rfl, q⟩
theorem wStep_ok0 {C : Cf} {w : Ws} {r : Evs} (W : WOk w r) : WOk ⟨wStepE0 C w r, wStepT C w r⟩ ⟨stepE0 C r, stepT C r⟩ where
  e := fun sc ρ e Q q => by
    have hd : ∀ ρ e Q, w.d sc ρ e Q → OKr (r.d sc ρ e) Q := fun ρ e Q => W.d
    dsimp only at q ⊢
    unfold wStepE0 at q
    split at q
    · split at q
      · rename_i d hd'
        exact OKr.im ⟨d, ρ, by rw [hd']; rfl, q⟩
      · exact q.elim
    · split at q
      · rename_i p hp
        exact ⟨p.1, p.2, by simp only [stepE0, hp], q⟩
      · exact q.elim
    · obtain ⟨ds, ρ1, e1, hl, q1⟩ := wDs_ok hd _ _ _ q
      exact OKr.im ⟨_, ρ1, by simp only [tupE, e1, if_pos hl], q1⟩
    · rename_i a pa b pc
      have e0 : stepE0 C r sc ρ (.List [.Starred a pa, b] pc) = if notStar b = true then starE2 (fun ρ => r.d sc ρ a) (fun ρ => r.d sc ρ b) ρ else none := rfl
      rw [e0]
      cases hn : notStar b with
      | false => rw [hn] at q; exact q.elim
      | true =>
        rw [hn] at q
        rw [if_pos rfl]
        obtain ⟨d, ρ1, e1, q1⟩ := hd _ _ _ q
        cases d <;> first | exact q1.elim | skip
        · obtain ⟨y, ρ2, e2, hl, q2⟩ := hd _ _ _ q1
          exact ⟨_, ρ2, by simp only [starE2, e1, e2, if_pos hl], q2⟩
        · obtain ⟨y, ρ2, e2, hl, q2⟩ := hd _ _ _ q1
          exact ⟨_, ρ2, by simp only [starE2, e1, e2, if_pos hl], q2⟩
    · rename_i es pe hns
      have e0 : stepE0 C r sc ρ (.List es pe) = lstE (evDs (r.d sc) es) ρ := by
        rw [stepE0]
        exact hns
      rw [e0]
      obtain ⟨ds, ρ1, e1, hl, q1⟩ := wDs_ok hd _ _ _ q
      exact ⟨_, ρ1, by simp only [lstE, e1, if_pos hl], q1⟩
    · obtain ⟨x, ρ1, e1, q1⟩ := hd _ _ _ q
      obtain ⟨y, ρ2, e2, s, e3, q3⟩ := hd _ _ _ q1
      exact ⟨s, ρ2, by simp only [stepE0, binE, e1, e2, e3], q3⟩
    · obtain ⟨x, ρ1, e1, t, e2, q2⟩ := hd _ _ _ q
      exact OKr.im ⟨_, ρ1, by simp only [notD, truE, e1, e2], q2⟩
    · exact OKr.im (wBool_ok hd _ _ _ q)
    · exact OKr.im (OKr.toD (wCmp_ok hd q))
    · exact OKr.im (OKr.toD (wChain_ok hd q))
    · obtain ⟨t, ρ1, e1, q1⟩ := W.t _ _ _ _ q
      cases t with
      | true =>
        obtain ⟨s, ρ2, e2, q2⟩ := W.e _ _ _ _ (q1.1 rfl)
        exact ⟨s, ρ2, by simp only [stepE0, ifE, e1, e2], q2⟩
      | false =>
        obtain ⟨s, ρ2, e2, q2⟩ := W.e _ _ _ _ (q1.2 rfl)
        exact ⟨s, ρ2, by simp only [stepE0, ifE, e1, e2], q2⟩
    · obtain ⟨d, ρ1, e1, l, ρ2, e2, u, ρ3, e3, s, e4, q4⟩ := hd _ _ _ q
      exact ⟨s, ρ3, by simp only [stepE0, slcE, e1, e2, e3, e4], q4⟩
    · rename_i a st p1 p2
      have e0 : stepE0 C r sc ρ (.Subscript a (.Slice none none (some st) p1) p2) = imE (backE (fun ρ => r.d sc ρ a) (fun ρ => r.d sc ρ st) ρ) := rfl
      rw [e0]
      obtain ⟨d, ρ1, e1, q1⟩ := hd _ _ _ q
      cases d <;> first | exact q1.elim | skip
      obtain ⟨y, ρ2, e2, q2⟩ := hd _ _ _ q1
      cases y <;> first | exact q2.elim | skip
      exact OKr.im ⟨_, ρ2, by simp only [backE, e1, e2, if_pos q2.1], q2.2⟩
    · rename_i a b pos hns hns2
      have h1 := wSub_ok (C := C) W q
      have h2 := OKr.im h1
      have e0 : stepE0 C r sc ρ (.Subscript a b pos) = imE (subE C r sc ρ a b) := by
        rw [stepE0]
        · exact hns
        · exact hns2
      rw [e0]
      exact h2
    · rename_i f pf elt tg iter ifs scope ps pc
      cases hc : (decide (f = "sorted") && globB sc "sorted") with
      | false => rw [hc] at q; exact q.elim
      | true =>
        rw [hc] at q
        simp only [cond_true] at q
        obtain ⟨acc, ρ', e1, ns, e2, hl, q2⟩ := wComp_ok hd q
        simp only [Bool.and_eq_true, decide_eq_true_eq] at hc
        refine ⟨_, ρ', ?_, q2⟩
        simp only [stepE0]
        rw [if_pos hc, e1]
        simp only [setF, e2, if_pos hl]
    · rename_i f pf g pg a pc pc2
      have e0 : stepE0 C r sc ρ (.Call (.Name f pf) [.Call (.Name g pg) [a] [] pc] [] pc2) = if f = "tuple" ∧ g = "range" ∧ globB sc "tuple" = true ∧ globB sc "range" = true ∧ notStar a = true then imE (tupRgE (fun ρ => r.d sc ρ a) ρ) else if f = "sorted" ∧ g = "set" ∧ globB sc "sorted" = true ∧ globB sc "set" = true ∧ notStar a = true then setLE (fun ρ => r.d sc ρ a) ρ else callE C r sc ρ f [.Call (.Name g pg) [a] [] pc] := rfl
      rw [e0]
      cases hc : (decide (f = "tuple") && decide (g = "range") && globB sc "tuple" && globB sc "range" && notStar a) with
      | true =>
        rw [hc] at q
        simp only [Bool.and_eq_true, decide_eq_true_eq] at hc
        rw [if_pos ⟨hc.1.1.1.1, hc.1.1.1.2, hc.1.1.2, hc.1.2, hc.2⟩]
        obtain ⟨d, ρ1, e1, q1⟩ := hd _ _ _ q
        cases d <;> first | exact q1.elim | skip
        exact OKr.im ⟨_, ρ1, by simp only [tupRgE, e1, if_pos q1.1], q1.2⟩
      | false =>
        rw [hc] at q
        rw [if_neg (fun z => by
          rw [show (decide (f = "tuple") && decide (g = "range") && globB sc "tuple" && globB sc "range" && notStar a) = true by
            simp only [Bool.and_eq_true, decide_eq_true_eq]
            exact ⟨⟨⟨⟨z.1, z.2.1⟩, z.2.2.1⟩, z.2.2.2.1⟩, z.2.2.2.2⟩] at hc
          cases hc)]
        dsimp only [cond_false] at q
        cases hs : (decide (f = "sorted") && decide (g = "set") && globB sc "sorted" && globB sc "set" && notStar a) with
        | true =>
          rw [hs] at q
          simp only [Bool.and_eq_true, decide_eq_true_eq] at hs
          rw [if_pos ⟨hs.1.1.1.1, hs.1.1.1.2, hs.1.1.2, hs.1.2, hs.2⟩]
          obtain ⟨d, ρ1, e1, q1⟩ := hd _ _ _ q
          cases d <;> first | exact q1.elim | skip
          · obtain ⟨ns, e2, hl, q2⟩ := q1
            exact ⟨_, ρ1, by simp only [setLE, e1, e2, if_pos hl], q2⟩
          · obtain ⟨ns, e2, hl, q2⟩ := q1
            exact ⟨_, ρ1, by simp only [setLE, e1, e2, if_pos hl], q2⟩
        | false =>
          rw [hs] at q
          rw [if_neg (fun z => by
            rw [show (decide (f = "sorted") && decide (g = "set") && globB sc "sorted" && globB sc "set" && notStar a) = true by
              simp only [Bool.and_eq_true, decide_eq_true_eq]
              exact ⟨⟨⟨⟨z.1, z.2.1⟩, z.2.2.1⟩, z.2.2.2.1⟩, z.2.2.2.2⟩] at hs
            cases hs)]
          exact wCall_ok W q
    · rename_i f pf y py pc
      have e0 : stepE0 C r sc ρ (.Call (.Name f pf) [.Name y py] [] pc) = if tupC C sc f = true then tupNE (fun ρ => r.d sc ρ (.Name y py)) ρ else callE C r sc ρ f [.Name y py] := rfl
      rw [e0]
      cases hc : tupC C sc f with
      | true =>
        rw [hc] at q
        rw [if_pos rfl]
        obtain ⟨d, ρ1, e1, q1⟩ := hd _ _ _ q
        cases d <;> first | exact q1.elim | skip
        exact ⟨_, ρ1, by simp only [tupNE, e1], q1⟩
      | false =>
        rw [hc] at q
        rw [if_neg (fun z => by cases z)]
        exact wCall_ok W q
    · rename_i x px m apos b cpos
      have e0 : stepE0 C r sc ρ (.Call (.Attribute (.Name x px) m apos) [b] [] cpos) = imE (cntS C r sc ρ x m (apos.endLine == cpos.line) b) := rfl
      rw [e0]
      cases hc : (decide (m = "count") && (apos.endLine == cpos.line) && notStar b) with
      | false => rw [hc] at q; exact q.elim
      | true =>
        rw [hc] at q
        simp only [Bool.and_eq_true, decide_eq_true_eq] at hc
        unfold cntS
        rw [if_pos ⟨hc.1.1, hc.1.2, hc.2⟩]
        dsimp only [cond_true] at q
        cases hi : slotE C sc x with
        | none => rw [hi] at q; exact q.elim
        | some i =>
          rw [hi] at q
          dsimp only at q ⊢
          split at q
          · rename_i ds hds
            obtain ⟨d, ρ1, e1, hf, q1⟩ := hd _ _ _ q
            exact OKr.im ⟨_, ρ1, by simp only [cntE, hds, e1, if_pos hf], q1⟩
          · rename_i ds hds
            obtain ⟨d, ρ1, e1, hf, q1⟩ := hd _ _ _ q
            exact OKr.im ⟨_, ρ1, by simp only [cntE, hds, e1, if_pos hf], q1⟩
          · exact q.elim
    · rename_i f pf es pc h1 h2 h3
      have e0 : stepE0 C r sc ρ (.Call (.Name f pf) es [] pc) = callE C r sc ρ f es := by
        rw [stepE0]
        · exact h1
        · exact h2
        · exact h3
      rw [e0]
      exact wCall_ok W q
    · obtain ⟨acc, ρ', e1, q1⟩ := wComp_ok hd q
      exact ⟨_, ρ', by simp only [stepE0, e1], q1⟩
    · obtain ⟨acc, ρ', e1, q1⟩ := wComp2_ok hd q
      exact ⟨_, ρ', by simp only [stepE0, e1], q1⟩
    · exact q
  t := fun sc ρ e Q q => by
    have hd : ∀ ρ e Q, w.d sc ρ e Q → OKr (r.d sc ρ e) Q := fun ρ e Q => W.d
    dsimp only at q ⊢
    unfold wStepT at q
    split at q
    · obtain ⟨t, ρ1, e1, q1⟩ := W.t _ _ _ _ q
      exact ⟨_, ρ1, by simp only [stepT, notTE, e1], q1⟩
    · exact wBoolT_ok (W.t sc) _ _ _ q
    · exact wCmp_ok hd q
    · exact wChain_ok hd q
    · rename_i h1 h2 h3 h4
      cases hp : plainTest e with
      | false => rw [hp] at q; exact q.elim
      | true =>
        rw [hp] at q
        obtain ⟨d, ρ1, e1, t, e2, q2⟩ := hd _ _ _ q
        refine ⟨t, ρ1, ?_, q2⟩
        unfold stepT
        split
        · exact absurd rfl (h1 _ _)
        · exact absurd rfl (h2 _ _ _)
        · exact absurd rfl (h3 _ _ _ _)
        · exact absurd rfl (h4 _ _ _ _ _ _)
        · rw [if_pos hp]
          simp only [truE, e1, e2]
def wStepE (C : Cf) (w : Ws) (r : Evs) (sc : Scope) (ρ : Rho) (e : Expr) (Q : Sl → Rho → Prop) : Prop := match hkE C r sc ρ e with
  | some q => Q q.1 q.2
  | none => match repA C sc e with
    | some a => w.d sc ρ a fun d ρ1 => showB d = true ∧ Q (.im (.str d.shown)) ρ1
    | none => wStepE0 C w r sc ρ e Q
theorem wStep_ok {C : Cf} {w : Ws} {r : Evs} (W : WOk w r) : WOk ⟨wStepE C w r, wStepT C w r⟩ ⟨stepE C r, stepT C r⟩ where
  e := fun sc ρ e Q q => by
    dsimp only at q ⊢
    unfold wStepE at q
    unfold stepE
    cases hq : hkE C r sc ρ e with
    | some p =>
      rw [hq] at q
      exact ⟨p.1, p.2, rfl, q⟩
    | none =>
      rw [hq] at q
      dsimp only at q ⊢
      cases hr : repA C sc e with
      | some a =>
        rw [hr] at q
        obtain ⟨d, ρ1, e1, hs, q1⟩ := W.d q
        exact ⟨_, ρ1, by simp only [repE, e1, if_pos hs]; rfl, q1⟩
      | none =>
        rw [hr] at q
        exact (wStep_ok0 W).e sc ρ e Q q
  t := (wStep_ok0 W).t
def ws (C : Cf) : Nat → Ws
  | 0 => ⟨fun _ _ _ _ => False, fun _ _ _ _ => False⟩
  | n + 1 => ⟨wStepE C (ws C n) (evs C n), wStepT C (ws C n) (evs C n)⟩
theorem ws_ok (C : Cf) : ∀ n, WOk (ws C n) (evs C n)
  | 0 => ⟨fun _ _ _ _ q => q.elim, fun _ _ _ _ q => q.elim⟩
  | n + 1 => wStep_ok (ws_ok C n)
end Dv

set_option Elab.async false
set_option linter.all false
set_option maxRecDepth 100000
set_option maxHeartbeats 4000000
namespace Dv
open PySem PySem.Spec L2 RZ
variable [TabC]

def OKf (o : Option Fl) (Q : Fl → Prop) : Prop := ∃ fl, o = some fl ∧ Q fl
def runK (k : Rho → (Fl → Prop) → Prop) (Q : Fl → Prop) : Fl → Prop
  | .nx ρ => k ρ Q
  | .rt s ρ => Q (.rt s ρ)
  | .bk ρ => Q (.bk ρ)
  | .ct ρ => Q (.ct ρ)
def wRunL (w : Rho → Stmt → (Fl → Prop) → Prop) : List Stmt → Rho → (Fl → Prop) → Prop
  | [], ρ, Q => Q (.nx ρ)
  | s :: r, ρ, Q => w ρ s (runK (wRunL w r) Q)
theorem wRunL_ok {w : Rho → Stmt → (Fl → Prop) → Prop} {f : Rho → Stmt → Option Fl} (h : ∀ ρ s Q, w ρ s Q → OKf (f ρ s) Q) : ∀ l ρ Q, wRunL w l ρ Q → OKf (runL f l ρ) Q
  | [], ρ, Q, q => ⟨_, rfl, q⟩
  | s :: r, ρ, Q, q => by
    obtain ⟨fl, e1, q1⟩ := h _ _ _ q
    cases fl with
    | nx ρ1 =>
      obtain ⟨fl2, e2, q2⟩ := wRunL_ok h r ρ1 Q q1
      exact ⟨fl2, by simp only [runL, e1, e2], q2⟩
    | rt s1 ρ1 => exact ⟨_, by simp only [runL, e1], q1⟩
    | bk ρ1 => exact ⟨_, by simp only [runL, e1], q1⟩
    | ct ρ1 => exact ⟨_, by simp only [runL, e1], q1⟩
def wName (C : Cf) (ok : Nat → Bool) (sc : Scope) (x : Str) (Q : Fl → Prop) (s : Sl) (ρ : Rho) : Prop := ∃ ρ', nameT C mAll ok sc x s ρ = some ρ' ∧ Q (.nx ρ')
theorem wName_ok {C : Cf} {ok : Nat → Bool} {sc : Scope} {x : Str} {Q : Fl → Prop} {o : Option (Sl × Rho)} (h : OKr o (wName C ok sc x Q)) : OKf (nameS C ok sc x o) Q := by
  obtain ⟨s, ρ, rfl, ρ', e, q⟩ := h
  exact ⟨_, by simp only [nameS, e]; rfl, q⟩
def wAsg (C : Cf) (w : Ws) (r : Evs) (sc : Scope) (ok : Nat → Bool) (ρ : Rho) (tg e : Expr) (Q : Fl → Prop) : Prop :=
  cond (notComp e && plainAsg tg e && notStar tg) (w.d sc ρ e fun d ρ1 => ∃ ρ', tgtE C mAll ok sc (r.d sc) 8 tg d ρ1 = some ρ' ∧ Q (.nx ρ')) False
theorem wAsg_ok {C : Cf} {w : Ws} {r : Evs} (W : WOk w r) {sc : Scope} {ok : Nat → Bool} {ρ : Rho} {tg e : Expr} {Q : Fl → Prop} (q : wAsg C w r sc ok ρ tg e Q) : OKf (asgE C r sc ok ρ tg e) Q := by
  unfold wAsg at q
  cases hc : (notComp e && plainAsg tg e && notStar tg) with
  | false => rw [hc] at q; exact q.elim
  | true =>
    rw [hc] at q
    obtain ⟨d, ρ1, e1, ρ', e2, q2⟩ := W.d q
    simp only [Bool.and_eq_true] at hc
    refine ⟨_, ?_, q2⟩
    unfold asgE
    rw [if_pos ⟨hc.1.1, hc.1.2, hc.2⟩, e1]
    simp only [asgS, e2]
    rfl
def wPar2 (C : Cf) (ok : Nat → Bool) (w : Rho → Expr → (Sl → Rho → Prop) → Prop) (x y : Str) (a b : Expr) (ρ : Rho) (Q : Fl → Prop) : Prop :=
  w ρ a fun s1 ρ1 => w ρ1 b fun s2 ρ2 => match idx x C.N, idx y C.N with
    | some i, some j => (i < ρ2.length ∧ j < ρ2.length ∧ ok i = true ∧ ok j = true ∧ i ≠ j) ∧ Q (.nx ((ρ2.set i (some s1)).set j (some s2)))
    | _, _ => False
def wStepS (C : Cf) (w : Ws) (r : Evs) (sc : Scope) (ok : Nat → Bool) (wf : Nat) (ww : Rho → Stmt → (Fl → Prop) → Prop) (f : Rho → Stmt → Option Fl) (ρ : Rho) (s : Stmt) (Q : Fl → Prop) : Prop := match s with
  | .Expr (.Constant (.str x) j p) p2 => Q (.nx ρ)
  | .Expr e _ => match appX e with
    | some (x, a) => match slotE C sc x with
      | some i => match ρ[i]? with
        | some (some (.ow _)) => w.d sc ρ a fun d ρ1 => match ρ1[i]? with
          | some (some (.ow xs)) => xs.length ≤ sline ∧ Q (.nx (ρ1.set i (some (.ow (xs ++ [d])))))
          | _ => False
        | _ => False
      | none => False
    | none => cond (notComp e) (w.e sc ρ e fun _ ρ1 => Q (.nx ρ1)) False
  | .Return (some e) _ => w.e sc ρ e fun s ρ1 => match s with
    | .im d => Q (.rt (.im d) ρ1)
    | .ow xs => Q (.rt (.ow xs) ρ1)
    | .tt xs => Q (.rt (.tt xs) ρ1)
    | _ => False
  | .Assign [.Name x px] (.ListComp elt [⟨tg, iter, ifs, 0⟩] scope lp) _ => cond (swB sc scope x px.line lp.line) (wComp C sc scope (w.d sc) (r.d (relS scope sc)) (r.t (relS scope sc)) elt tg iter ifs ρ fun acc ρ1 => wName C ok sc x Q (.ow acc) ρ1)
      (w.e sc ρ (.ListComp elt [⟨tg, iter, ifs, 0⟩] scope lp) (wName C ok sc x Q))
  | .Assign [.Name x px] e _ => cond (notComp e) (w.e sc ρ e (wName C ok sc x Q)) False
  | .Assign [.Tuple [.Name x px, .Name y py] kt pt] (.Tuple [a, b] k2 p2) _ => cond (par2C sc x y px py a b) (wPar2 C ok (w.e sc) x y a b ρ Q) (cond (par2K sc x y a b) (wPar2 C ok (w.e sc) x y a b ρ Q) (wAsg C w r sc ok ρ (.Tuple [.Name x px, .Name y py] kt pt) (.Tuple [a, b] k2 p2) Q))
  | .Assign [tg] e _ => wAsg C w r sc ok ρ tg e Q
  | .AugAssign (.Subscript (.Name x _) ie _) op e _ => match augOp op with
    | some g => cond (notSlice ie) (match slotE C sc x with
      | some i => match ρ[i]? with
        | some (some (.ow _)) => w.d sc ρ ie fun y ρ1 => match y with
          | .int z => match ρ1[i]? with
            | some (some (.ow xs)) => ∃ j a, ixN xs.length z = some j ∧ xs[j]? = some (.int a) ∧ w.d sc ρ1 e fun v ρ2 => match v with
              | .int b => match ρ2[i]? with
                | some (some (.ow ys)) => (j < ys.length ∧ ys.length = xs.length) ∧ Q (.nx (ρ2.set i (some (.ow (ys.set j (.int (g a b)))))))
                | _ => False
              | _ => False
            | _ => False
          | _ => False
        | _ => False
      | none => False) False
    | none => False
  | .If c a b _ => w.t sc ρ c fun t ρ1 => brB t (wRunL ww a ρ1 Q) (wRunL ww b ρ1 Q)
  | .For tg iter body [] _ => cond (notSet iter) (wIt sc (w.d sc) tg iter ρ fun its ρ1 => OKf (forE (fun d ρ => tgtE C mAll ok sc (r.d sc) 8 tg d ρ) (runL f body) its ρ1) Q) False
  | .While c body [] _ => OKf (whileE (fun ρ => r.t sc ρ c) (runL f body) wf ρ) Q
  | s => OKf (stepS C r sc ok wf f ρ s) Q
theorem wStepS_ok {C : Cf} {w : Ws} {r : Evs} (W : WOk w r) {sc : Scope} {ok : Nat → Bool} {wf : Nat} {ww : Rho → Stmt → (Fl → Prop) → Prop} {f : Rho → Stmt → Option Fl} (F : ∀ ρ s Q, ww ρ s Q → OKf (f ρ s) Q) (ρ : Rho) (s : Stmt) (Q : Fl → Prop)
    (q : wStepS C w r sc ok wf ww f ρ s Q) : OKf (stepS C r sc ok wf f ρ s) Q := by
  have L := wRunL_ok F
  unfold wStepS at q
  split at q
  · exact ⟨_, rfl, q⟩
  · rename_i e pe hne
    have e0 : stepS C r sc ok wf f ρ (.Expr e pe) = (match appX e with
      | some (x, a) => appS C sc (fun ρ => r.d sc ρ a) x ρ
      | none => if notComp e then (r.e sc ρ e).map fun q => .nx q.2 else none) := by
      unfold stepS
      dsimp only
      split
      · exact absurd rfl (hne _ _ _)
      · rfl
    rw [e0]
    split at q
    · rename_i x a hx
      try simp only [hx]
      split at q
      · rename_i i hi
        split at q
        · rename_i xs0 hx0
          obtain ⟨d, ρ1, e1, q1⟩ := W.d q
          split at q1
          · rename_i xs hxs
            exact ⟨_, by simp only [appS, hi, hx0, e1, hxs, if_pos q1.1], q1.2⟩
          · exact q1.elim
        · exact q.elim
      · exact q.elim
    · rename_i hx
      try simp only [hx]
      cases hc : notComp e with
      | false => rw [hc] at q; exact q.elim
      | true =>
        rw [hc] at q
        obtain ⟨s, ρ1, e1, q1⟩ := W.e _ _ _ _ q
        exact ⟨_, by simp only [if_true, e1]; rfl, q1⟩
  · obtain ⟨s, ρ1, e1, q1⟩ := W.e _ _ _ _ q
    cases s with
    | im d => exact ⟨_, by simp only [stepS, e1, retOf], q1⟩
    | ow d => exact ⟨_, by simp only [stepS, e1, retOf], q1⟩
    | fn d => exact q1.elim
    | fz d => exact q1.elim
    | tt d => exact ⟨_, by simp only [stepS, e1, retOf], q1⟩
  · rename_i x px elt tg iter ifs scope lp pe
    cases hc : swB sc scope x px.line lp.line with
    | true =>
      rw [hc] at q
      simp only [cond_true] at q
      obtain ⟨acc, ρ', e1, q1⟩ := wComp_ok (ev := r.d sc) (fun ρ e Q => W.d) q
      simp only [stepS, hc, if_true]
      exact wName_ok ⟨_, _, e1, q1⟩
    | false =>
      rw [hc] at q
      simp only [stepS, hc]
      exact wName_ok (W.e _ _ _ _ q)
  · rename_i x px e pe hne
    have e0 : stepS C r sc ok wf f ρ (.Assign [.Name x px] e pe) = if notComp e then nameS C ok sc x (r.e sc ρ e) else none := by
      unfold stepS
      dsimp only
      split
      · exact absurd rfl (hne _ _ _ _ _ _)
      · rfl
    rw [e0]
    cases hc : notComp e with
    | false => rw [hc] at q; exact q.elim
    | true =>
      rw [hc] at q
      rw [if_pos rfl]
      exact wName_ok (W.e _ _ _ _ q)
  · rename_i x px y py kt pt a b k2 p2 pe
    simp only [stepS]
    cases hc : par2C sc x y px py a b with
    | true =>
      rw [hc] at q
      simp only [if_true]
      obtain ⟨s1, ρ1, e1, q1⟩ := W.e _ _ _ _ q
      obtain ⟨s2, ρ2, e2, q2⟩ := W.e _ _ _ _ q1
      split at q2
      · rename_i i j hi hj
        exact ⟨_, by simp only [par2S, e1, e2, hi, hj, if_pos q2.1], q2.2⟩
      · exact q2.elim
    | false =>
      rw [hc] at q
      simp only [Bool.false_eq_true, if_false]
      simp only [cond_false] at q
      cases hk : par2K sc x y a b with
      | true =>
        rw [hk] at q
        simp only [if_true]
        obtain ⟨s1, ρ1, e1, q1⟩ := W.e _ _ _ _ q
        obtain ⟨s2, ρ2, e2, q2⟩ := W.e _ _ _ _ q1
        split at q2
        · rename_i i j hi hj
          exact ⟨_, by simp only [par2S, e1, e2, hi, hj, if_pos q2.1], q2.2⟩
        · exact q2.elim
      | false =>
        rw [hk] at q
        exact wAsg_ok W q
  · rename_i tg e pe h1 h2 h3
    have e0 : stepS C r sc ok wf f ρ (.Assign [tg] e pe) = asgE C r sc ok ρ tg e := by
      cases tg with
      | Name x px => exact absurd rfl (h2 x px)
      | _ =>
        unfold stepS
        dsimp only
        try (split <;> first | rfl | skip)
        all_goals (rename_i hh; exact absurd hh (h3 _ _ _ _ _ _ _ _ _ _ rfl))
    rw [e0]
    exact wAsg_ok W q
  · rename_i x px ie ps op e pe
    split at q
    · rename_i g hg
      cases hn : notSlice ie with
      | false => rw [hn] at q; exact q.elim
      | true =>
        rw [hn] at q
        simp only [cond_true] at q
        split at q
        · rename_i i hi
          split at q
          · rename_i xs0 hx0
            obtain ⟨y, ρ1, e1, q1⟩ := W.d q
            split at q1
            · rename_i z
              split at q1
              · rename_i xs hx
                obtain ⟨j, a, hj, ha, q2⟩ := q1
                obtain ⟨v, ρ2, e2, q3⟩ := W.d q2
                split at q3
                · rename_i b
                  split at q3
                  · rename_i ys hy
                    exact ⟨_, by simp only [stepS, augX, hg, hn, hi, hx0, e1, hx, hj, ha, e2, hy, if_pos q3.1, Bool.true_eq_false, if_false], q3.2⟩
                  · exact q3.elim
                · exact q3.elim
              · exact q1.elim
            · exact q1.elim
          · exact q.elim
        · exact q.elim
    · exact q.elim
  · obtain ⟨t, ρ1, e1, q1⟩ := W.t _ _ _ _ q
    cases t with
    | true =>
      obtain ⟨fl, e2, q2⟩ := L _ _ _ (q1.1 rfl)
      exact ⟨fl, by simp only [stepS, e1, ifS, e2], q2⟩
    | false =>
      obtain ⟨fl, e2, q2⟩ := L _ _ _ (q1.2 rfl)
      exact ⟨fl, by simp only [stepS, e1, ifS, e2], q2⟩
  · rename_i tg iter body pe
    cases hc : notSet iter with
    | false => rw [hc] at q; exact q.elim
    | true =>
      rw [hc] at q
      simp only [cond_true] at q
      obtain ⟨its, ρ1, e1, fl, e2, q2⟩ := wIt_ok (ev := r.d sc) (fun ρ e Q => W.d) q
      exact ⟨fl, by simp only [stepS, hc, if_true, e1, e2], q2⟩
  · exact q
  · exact q
def wxs (C : Cf) (n : Nat) (sc : Scope) (ok : Nat → Bool) (wf : Nat) : Nat → Rho → Stmt → (Fl → Prop) → Prop
  | 0 => fun _ _ _ => False
  | m + 1 => wStepS C (ws C n) (evs C n) sc ok wf (wxs C n sc ok wf m) (exs C (evs C n) sc ok wf m)
theorem wxs_ok {C : Cf} {n : Nat} {sc : Scope} {ok : Nat → Bool} {wf : Nat} : ∀ m ρ s Q, wxs C n sc ok wf m ρ s Q → OKf (exs C (evs C n) sc ok wf m ρ s) Q
  | 0, _, _, _, q => q.elim
  | m + 1, ρ, s, Q, q => wStepS_ok (ws_ok C n) (wxs_ok m) ρ s Q q
end Dv

set_option Elab.async false
set_option linter.all false
set_option maxRecDepth 100000
set_option maxHeartbeats 4000000
namespace Dv
open PySem PySem.Spec L2 RZ
variable [TabC]

def slot0 : Rho → Option (List D)
  | some (.ow xs) :: _ => some xs
  | _ => none
/-- a def as the evaluator runs its body -/
def evFn (N : List Str) (gl : Str → Option Sl) (fns : Str → Option Fn) (st : Stmt) (box : Bool) (ar : Nat) (tt : Xt := ({ b := false } : Xt)) : Fn := ⟨box, ar, fun bs as =>
  match retF (runL (exs ⟨N, gl, fns, tt⟩ (evs ⟨N, gl, fns, tt⟩ 14) (defScope st) (okB ⟨box, ar, fun _ _ => none⟩) 200 14) (defBody st) (entR N ⟨box, ar, fun _ _ => none⟩ bs as)) with
  | some (s, ρ') => if box then (match slot0 ρ' with | some bs' => some (s, bs') | none => none) else some (s, [])
  | none => none⟩
def finB (box : Bool) (ρ : Rho) (Q : List D → Prop) : Prop := cond box (match slot0 ρ with | some bs => Q bs | none => False) (Q [])
def finK (box : Bool) (P : Sl → List D → Prop) : Fl → Prop
  | .rt s ρ => finB box ρ (P s)
  | .nx ρ => finB box ρ (P (.im .none))
  | _ => False
theorem evFn_run {N : List Str} {gl : Str → Option Sl} {fns : Str → Option Fn} {st : Stmt} {box : Bool} {ar : Nat} {tt : Xt} {bs : List D} {as : List Sl} {P : Sl → List D → Prop}
    (h : wRunL (wxs ⟨N, gl, fns, tt⟩ 14 (defScope st) (okB ⟨box, ar, fun _ _ => none⟩) 200 14) (defBody st) (entR N ⟨box, ar, fun _ _ => none⟩ bs as) (finK box P)) : wRun (evFn N gl fns st box ar tt) bs as P := by
  obtain ⟨fl, e, q⟩ := wRunL_ok (wxs_ok 14) _ _ _ h
  unfold wRun evFn
  dsimp only
  rw [e]
  cases fl with
  | nx ρ =>
    cases box with
    | false => exact ⟨_, _, rfl, q⟩
    | true =>
      unfold finK finB at q
      simp only [cond_true] at q
      cases hs : slot0 ρ with
      | none => rw [hs] at q; exact q.elim
      | some xs => rw [hs] at q; exact ⟨_, xs, by simp only [retF, hs, if_true], q⟩
  | rt s ρ =>
    cases box with
    | false => exact ⟨_, _, rfl, q⟩
    | true =>
      unfold finK finB at q
      simp only [cond_true] at q
      cases hs : slot0 ρ with
      | none => rw [hs] at q; exact q.elim
      | some xs => rw [hs] at q; exact ⟨_, xs, by simp only [retF, hs, if_true], q⟩
  | bk ρ => exact q.elim
  | ct ρ => exact q.elim
theorem slot0_get {ρ : Rho} {xs : List D} (h : slot0 ρ = some xs) : ρ[0]? = some (some (.ow xs)) := by
  unfold slot0 at h
  split at h
  · cases h; rfl
  · cases h
/-- such a def is what the program's def is -/
theorem evFn_run0 {gl : Str → Option Sl} {fns : Str → Option Fn} {box : Bool} {ar : Nat} {tt : Xt} {N : List Str} {st : Stmt} (bs : List D) (as : List Sl) (s : Sl) (bs' : List D) (h : (evFn N gl fns st box ar tt).run bs as = some (s, bs')) :
    ∃ n m wf ρ', retF (runL (exs ⟨N, gl, fns, tt⟩ (evs ⟨N, gl, fns, tt⟩ n) (defScope st) (okB (evFn N gl fns st box ar tt)) wf m) (defBody st) (entR N (evFn N gl fns st box ar tt) bs as)) = some (s, ρ') ∧ ((evFn N gl fns st box ar tt).box = true → ρ'[0]? = some (some (.ow bs'))) := by
  unfold evFn at h
  dsimp only at h
  split at h
  · rename_i s1 ρ1 h1
    refine ⟨14, 14, 200, ρ1, ?_, fun hb => ?_⟩
    · have : (evFn N gl fns st box ar tt).box = box := rfl
      have e2 : entR N (evFn N gl fns st box ar tt) bs as = entR N ⟨box, ar, fun _ _ => none⟩ bs as := rfl
      have e3 : okB (evFn N gl fns st box ar tt) = okB ⟨box, ar, fun _ _ => none⟩ := rfl
      rw [e2, e3, h1]
      split at h
      · split at h
        · cases h; rfl
        · cases h
      · cases h; rfl
    · have hb' : box = true := hb
      rw [if_pos hb'] at h
      split at h
      · rename_i bs1 hs
        cases h
        exact slot0_get hs
      · cases h
  · cases h
theorem evFn_ok {P : Program} {w : World} {K : PySem.W.Frag} {mg : Str → Option Value} {base : Heap} {k : Nat} {gl : Str → Option Sl} {fns : Str → Option Fn} {box : Bool} {ar : Nat} {tt : Bool} {N ps : List Str} {x qual : Str} {st : Stmt} {f : Addr} {fd : FuncData}
    (F : Fun K x qual st f fd) (b : Binds K fd ps []) (S : FnScope N ps (defScope st)) (M : MOk gl fns P w K mg base k) (hmg : mg x = some (.ref f)) (har : ar = ps.length) (hps : ps.length ≤ N.length) : FOkP P w K mg base (k + 1) x (evFn N gl fns st box ar tt) :=
  fn_ok (evFn N gl fns st box ar tt) F b S M hmg har hps fun bs as s bs' h _ => evFn_run0 bs as s bs' h
theorem evFn_ok0 {P : Program} {w : World} {K : PySem.W.Frag} {mg : Str → Option Value} {base : Heap} {k : Nat} {gl : Str → Option Sl} {fns : Str → Option Fn} {box : Bool} {ar : Nat} {tt : Bool} {N ps : List Str} {x qual : Str} {st : Stmt} {f : Addr} {fd : FuncData}
    (F : Fun K x qual st f fd) (S : FnScope N ps (defScope st)) (M : MOk gl fns P w K mg base k) (har : ar = ps.length) (hps : ps.length ≤ N.length) : FnOk P w K mg base CX0 (k + 1) f fd ps (spOf (K, mg) (evFn N gl fns st box ar tt)) :=
  fn_ok0 (evFn N gl fns st box ar tt) F S M har hps fun bs as s bs' h _ => evFn_run0 bs as s bs' h
theorem brB_t {b : Bool} {P R : Prop} (h : b = true) (p : P) : brB b P R := ⟨fun _ => p, fun z => by rw [h] at z; cases z⟩
theorem brB_f {b : Bool} {P R : Prop} (h : b = false) (p : R) : brB b P R := ⟨fun z => (by rw [h] at z; cases z), fun _ => p⟩
end Dv

set_option Elab.async false
set_option linter.all false
set_option maxRecDepth 100000
set_option maxHeartbeats 4000000
namespace Dv
open PySem PySem.Spec L2 RZ
variable [TabC]

/-- one turn of a comprehension that leaves the frame as it was: what it adds -/
def TurnOk (vs : List Nat) (f : D → Rho → Option Rho) (t : Rho → Option (Bool × Rho)) (g : Rho → Option (D × Rho)) (d : D) (ρ0 : Rho) (o : Option D) : Prop :=
  ∃ ρ1, f d ρ0 = some ρ1 ∧ ∃ b ρ2, t ρ1 = some (b, ρ2) ∧ (b = true → ∃ e ρ3, g ρ2 = some (e, ρ3) ∧ wipeR ρ3 vs = ρ0 ∧ o = some e) ∧ (b = false → wipeR ρ2 vs = ρ0 ∧ o = none)
theorem loop_map {vs : List Nat} {f : D → Rho → Option Rho} {t : Rho → Option (Bool × Rho)} {g : Rho → Option (D × Rho)} {α : Type} (enc : α → D) (h : α → Option D) (ρ0 : Rho) : ∀ (xs : List α) (acc : List D), acc.length + xs.length ≤ sline + 1 →
    (∀ x ∈ xs, TurnOk vs f t g (enc x) ρ0 (h x)) → loopE vs f t g (xs.map enc) ρ0 acc = some (acc ++ xs.filterMap h, ρ0)
  | [], acc, _, _ => by simp [loopE]
  | x :: xs, acc, hl, ht => by
    obtain ⟨ρ1, e1, b, ρ2, e2, h1, h2⟩ := ht x List.mem_cons_self
    have ih := fun acc hl => loop_map enc h ρ0 xs acc hl fun y hy => ht y (List.mem_cons_of_mem _ hy)
    simp only [List.length_cons] at hl
    cases b with
    | true =>
      obtain ⟨e, ρ3, e3, hw, ho⟩ := h1 rfl
      simp only [List.map_cons, loopE, e1, e2, e3, if_pos (show acc.length ≤ sline by omega), hw]
      rw [ih _ (by simp; omega)]
      simp [ho]
    | false =>
      obtain ⟨hw, ho⟩ := h2 rfl
      simp only [List.map_cons, loopE, e1, e2, hw]
      rw [ih _ (by omega)]
      simp [ho]
/-- the same with a frame that may change within I -/
def TurnI (vs : List Nat) (f : D → Rho → Option Rho) (t : Rho → Option (Bool × Rho)) (g : Rho → Option (D × Rho)) (I : Rho → Prop) (d : D) (ρ : Rho) (o : Option D) : Prop :=
  ∃ ρ1, f d ρ = some ρ1 ∧ ∃ b ρ2, t ρ1 = some (b, ρ2) ∧ (b = true → ∃ e ρ3, g ρ2 = some (e, ρ3) ∧ I (wipeR ρ3 vs) ∧ o = some e) ∧ (b = false → I (wipeR ρ2 vs) ∧ o = none)
theorem loop_inv {vs : List Nat} {f : D → Rho → Option Rho} {t : Rho → Option (Bool × Rho)} {g : Rho → Option (D × Rho)} {α : Type} (enc : α → D) (h : α → Option D) (I : Rho → Prop) : ∀ (xs : List α) (acc : List D) (ρ : Rho), acc.length + xs.length ≤ sline + 1 → I ρ →
    (∀ x ∈ xs, ∀ ρ, I ρ → TurnI vs f t g I (enc x) ρ (h x)) → ∃ ρ', I ρ' ∧ loopE vs f t g (xs.map enc) ρ acc = some (acc ++ xs.filterMap h, ρ')
  | [], acc, ρ, _, hI, _ => ⟨ρ, hI, by simp [loopE]⟩
  | x :: xs, acc, ρ, hl, hI, ht => by
    obtain ⟨ρ1, e1, b, ρ2, e2, h1, h2⟩ := ht x List.mem_cons_self ρ hI
    have ih := fun acc ρ0 hl hI0 => loop_inv enc h I xs acc ρ0 hl hI0 fun y hy => ht y (List.mem_cons_of_mem _ hy)
    simp only [List.length_cons] at hl
    cases b with
    | true =>
      obtain ⟨e, ρ3, e3, hw, ho⟩ := h1 rfl
      obtain ⟨ρ', i', e'⟩ := ih (acc ++ [e]) _ (by simp; omega) hw
      refine ⟨ρ', i', ?_⟩
      simp only [List.map_cons, loopE, e1, e2, e3, if_pos (show acc.length ≤ sline by omega)]
      rw [e']
      simp [ho]
    | false =>
      obtain ⟨hw, ho⟩ := h2 rfl
      obtain ⟨ρ', i', e'⟩ := ih acc _ (by omega) hw
      refine ⟨ρ', i', ?_⟩
      simp only [List.map_cons, loopE, e1, e2]
      rw [e']
      simp [ho]
def wTurnI (C : Cf) (n : Nat) (sc : Scope) (vs : List Nat) (f : D → Rho → Option Rho) (ifs : List Expr) (elt : Expr) (I : Rho → Prop) (d : D) (ρ : Rho) (o : Option D) : Prop :=
  ∃ ρ1, f d ρ = some ρ1 ∧ match ifs with
    | [] => (ws C n).d sc ρ1 elt fun e ρ3 => I (wipeR ρ3 vs) ∧ o = some e
    | [c] => (ws C n).t sc ρ1 c fun b ρ2 => brB b ((ws C n).d sc ρ2 elt fun e ρ3 => I (wipeR ρ3 vs) ∧ o = some e) (I (wipeR ρ2 vs) ∧ o = none)
    | _ => False
theorem wTurnI_ok {C : Cf} {n : Nat} {sc : Scope} {vs : List Nat} {f : D → Rho → Option Rho} {ifs : List Expr} {elt : Expr} {I : Rho → Prop} {d : D} {ρ : Rho} {o : Option D} (h : wTurnI C n sc vs f ifs elt I d ρ o) :
    TurnI vs f (ifsE ((evs C n).t sc) ifs) (fun ρ => (evs C n).d sc ρ elt) I d ρ o := by
  obtain ⟨ρ1, e1, h⟩ := h
  refine ⟨ρ1, e1, ?_⟩
  match ifs, h with
  | [], h =>
    obtain ⟨e, ρ3, e3, q⟩ := (ws_ok C n).d h
    exact ⟨true, ρ1, rfl, fun _ => ⟨e, ρ3, e3, q⟩, fun z => nomatch z⟩
  | [c], h =>
    obtain ⟨b, ρ2, e2, q⟩ := (ws_ok C n).t _ _ _ _ h
    refine ⟨b, ρ2, e2, fun hb => ?_, fun hb => q.2 hb⟩
    obtain ⟨e, ρ3, e3, q3⟩ := (ws_ok C n).d (q.1 hb)
    exact ⟨e, ρ3, e3, q3⟩
/-- in the form that a comprehension asks -/
theorem loop_invQ {vs : List Nat} {f : D → Rho → Option Rho} {t : Rho → Option (Bool × Rho)} {g : Rho → Option (D × Rho)} {α : Type} (enc : α → D) (h : α → Option D) (I : Rho → Prop) {its : List D} {xs : List α} {ρ : Rho} {Q : List D → Rho → Prop} (hi : its = xs.map enc) (hl : xs.length ≤ sline + 1) (hI : I ρ)
    (ht : ∀ x ∈ xs, ∀ ρ, I ρ → TurnI vs f t g I (enc x) ρ (h x)) (hq : ∀ ρ', I ρ' → Q (xs.filterMap h) ρ') : ∃ acc ρ2, loopE vs f t g its ρ [] = some (acc, ρ2) ∧ Q acc ρ2 := by
  subst hi
  obtain ⟨ρ', i', e⟩ := loop_inv enc h I xs [] ρ (by simpa using hl) hI ht
  exact ⟨_, _, e, by simpa using hq ρ' i'⟩
theorem loop_mapQ {vs : List Nat} {f : D → Rho → Option Rho} {t : Rho → Option (Bool × Rho)} {g : Rho → Option (D × Rho)} {α : Type} (enc : α → D) (h : α → Option D) {its : List D} {xs : List α} {ρ : Rho} {Q : List D → Rho → Prop} (hi : its = xs.map enc) (hl : xs.length ≤ sline + 1)
    (ht : ∀ x ∈ xs, TurnOk vs f t g (enc x) ρ (h x)) (hq : Q (xs.filterMap h) ρ) : ∃ acc ρ2, loopE vs f t g its ρ [] = some (acc, ρ2) ∧ Q acc ρ2 := by
  subst hi
  exact ⟨_, _, loop_map enc h ρ xs [] (by simpa using hl) ht, by simpa using hq⟩
def wTurn (C : Cf) (n : Nat) (sc : Scope) (vs : List Nat) (f : D → Rho → Option Rho) (ifs : List Expr) (elt : Expr) (d : D) (ρ0 : Rho) (o : Option D) : Prop :=
  ∃ ρ1, f d ρ0 = some ρ1 ∧ match ifs with
    | [] => (ws C n).d sc ρ1 elt fun e ρ3 => wipeR ρ3 vs = ρ0 ∧ o = some e
    | [c] => (ws C n).t sc ρ1 c fun b ρ2 => brB b ((ws C n).d sc ρ2 elt fun e ρ3 => wipeR ρ3 vs = ρ0 ∧ o = some e) (wipeR ρ2 vs = ρ0 ∧ o = none)
    | _ => False
theorem wTurn_ok {C : Cf} {n : Nat} {sc : Scope} {vs : List Nat} {f : D → Rho → Option Rho} {ifs : List Expr} {elt : Expr} {d : D} {ρ0 : Rho} {o : Option D} (h : wTurn C n sc vs f ifs elt d ρ0 o) :
    TurnOk vs f (ifsE ((evs C n).t sc) ifs) (fun ρ => (evs C n).d sc ρ elt) d ρ0 o := by
  obtain ⟨ρ1, e1, h⟩ := h
  refine ⟨ρ1, e1, ?_⟩
  match ifs, h with
  | [], h =>
    obtain ⟨e, ρ3, e3, q⟩ := (ws_ok C n).d h
    exact ⟨true, ρ1, rfl, fun _ => ⟨e, ρ3, e3, q⟩, fun z => nomatch z⟩
  | [c], h =>
    obtain ⟨b, ρ2, e2, q⟩ := (ws_ok C n).t _ _ _ _ h
    refine ⟨b, ρ2, e2, fun hb => ?_, fun hb => q.2 hb⟩
    obtain ⟨e, ρ3, e3, q3⟩ := (ws_ok C n).d (q.1 hb)
    exact ⟨e, ρ3, e3, q3⟩
/-- a loop whose turns end by themselves; R by the turn's number -/
theorem for_fold {f : D → Rho → Option Rho} {b : Rho → Option Fl} {α S : Type} (enc : α → D) (R : Nat → S → Rho → Prop) (step : S → α → S) : ∀ (xs : List α) (k : Nat) (s : S) (ρ : Rho), R k s ρ →
    (∀ i s ρ x, xs[i]? = some x → R (k + i) s ρ → ∃ ρ1, f (enc x) ρ = some ρ1 ∧ OKf (b ρ1) fun fl => ∃ ρ2, fl = .nx ρ2 ∧ R (k + i + 1) (step s x) ρ2) →
    ∃ ρ', forE f b (xs.map enc) ρ = some (.nx ρ') ∧ R (k + xs.length) (xs.foldl step s) ρ'
  | [], k, s, ρ, h, _ => ⟨ρ, rfl, h⟩
  | x :: xs, k, s, ρ, h, ht => by
    obtain ⟨ρ1, e1, fl, e2, ρ2, rfl, h2⟩ := ht 0 s ρ x rfl h
    obtain ⟨ρ', e3, h3⟩ := for_fold enc R step xs (k + 1) (step s x) ρ2 h2 fun i s ρ y hy hr => by
      have e : k + 1 + i = k + (i + 1) := by omega
      rw [e] at hr ⊢
      exact ht (i + 1) s ρ y (by simpa using hy) hr
    refine ⟨ρ', by simp only [List.map_cons, forE, e1, e2, e3], ?_⟩
    have e : k + 1 + xs.length = k + (x :: xs).length := by simp; omega
    rw [e] at h3
    exact h3
theorem enumD_eq : ∀ (k : Nat) (xs : List D), enumD k xs = (xs.zipIdx k).map fun p => .tuple [.int (p.2 : Nat), p.1]
  | _, [] => by simp [enumD]
  | k, x :: xs => by simp [enumD, enumD_eq (k + 1) xs]
theorem zipD_eq : ∀ (xs ys : List D), zipD xs ys = (xs.zip ys).map fun p => .tuple [p.1, p.2]
  | [], _ => by simp [zipD]
  | _ :: _, [] => by simp [zipD]
  | x :: xs, y :: ys => by simp [zipD, zipD_eq xs ys]
end Dv
namespace Dv
open PySem PySem.Spec L2 RZ
variable [TabC]
theorem okf_for {f : D → Rho → Option Rho} {b : Rho → Option Fl} {α S : Type} (enc : α → D) (R : Nat → S → Rho → Prop) (step : S → α → S) {xs : List α} {s : S} {ρ : Rho} {Q : Fl → Prop} (h : R 0 s ρ)
    (ht : ∀ i s ρ x, xs[i]? = some x → R i s ρ → ∃ ρ1, f (enc x) ρ = some ρ1 ∧ OKf (b ρ1) fun fl => ∃ ρ2, fl = .nx ρ2 ∧ R (i + 1) (step s x) ρ2)
    (hq : ∀ ρ', R xs.length (xs.foldl step s) ρ' → Q (.nx ρ')) : OKf (forE f b (xs.map enc) ρ) Q := by
  obtain ⟨ρ', e, h'⟩ := for_fold enc R step xs 0 s ρ h fun i s ρ x hx hr => by
    rw [Nat.zero_add] at hr ⊢
    exact ht i s ρ x hx hr
  rw [Nat.zero_add] at h'
  exact ⟨_, e, hq ρ' h'⟩
end Dv
namespace Dv
open PySem PySem.Spec L2 RZ
variable [TabC]
/-- a while whose measure falls -/
theorem okf_while {t : Rho → Option (Bool × Rho)} {b : Rho → Option Fl} {S : Type} (R : S → Rho → Prop) (Z : S → Rho → Prop) (m : S → Nat)
    (ht : ∀ s ρ, R s ρ → OKr (t ρ) fun c ρ1 => brB c (OKf (b ρ1) fun fl => ∃ ρ2 s', fl = .nx ρ2 ∧ R s' ρ2 ∧ m s' < m s) (Z s ρ1)) : ∀ (n : Nat) (s : S) (ρ : Rho) (Q : Fl → Prop), R s ρ → m s < n → (∀ s' ρ', Z s' ρ' → Q (.nx ρ')) → OKf (whileE t b n ρ) Q
  | 0, s, ρ, Q, _, h, _ => absurd h (Nat.not_lt_zero _)
  | n + 1, s, ρ, Q, hr, hm, hq => by
    obtain ⟨c, ρ1, e1, q⟩ := ht s ρ hr
    cases c with
    | false => exact ⟨_, by simp only [whileE, e1], hq s ρ1 (q.2 rfl)⟩
    | true =>
      obtain ⟨fl, e2, ρ2, s', rfl, hr', hlt⟩ := q.1 rfl
      obtain ⟨fl2, e3, q3⟩ := okf_while R Z m ht n s' ρ2 Q hr' (by omega) hq
      exact ⟨fl2, by simp only [whileE, e1, e2, e3], q3⟩
end Dv
namespace Dv
open PySem PySem.Spec L2 RZ
variable [TabC]
/-- a comprehension of which one only wants to know what its items are like -/
theorem loop_any {vs : List Nat} {f : D → Rho → Option Rho} {t : Rho → Option (Bool × Rho)} {g : Rho → Option (D × Rho)} {α : Type} (enc : α → D) (Pe : D → Prop) (I : Rho → Prop) : ∀ (xs : List α) (acc : List D) (ρ : Rho), acc.length + xs.length ≤ sline + 1 → I ρ →
    (∀ x ∈ xs, ∀ ρ, I ρ → ∃ e, TurnI vs f t g I (enc x) ρ (some e) ∧ Pe e) → ∃ ρ' r, I ρ' ∧ loopE vs f t g (xs.map enc) ρ acc = some (acc ++ r, ρ') ∧ r.length = xs.length ∧ ∀ e ∈ r, Pe e
  | [], acc, ρ, _, hI, _ => ⟨ρ, [], hI, by simp [loopE], rfl, fun e h => (by cases h)⟩
  | x :: xs, acc, ρ, hl, hI, ht => by
    obtain ⟨e0, ⟨ρ1, e1, b, ρ2, e2, h1, h2⟩, hp⟩ := ht x List.mem_cons_self ρ hI
    simp only [List.length_cons] at hl
    cases b with
    | true =>
      obtain ⟨e, ρ3, e3, hw, ho⟩ := h1 rfl
      cases ho
      obtain ⟨ρ', r, i', e', l', p'⟩ := loop_any enc Pe I xs (acc ++ [e0]) _ (by simp; omega) hw fun y hy => ht y (List.mem_cons_of_mem _ hy)
      refine ⟨ρ', e0 :: r, i', ?_, by simp [l'], fun e he => ?_⟩
      · simp only [List.map_cons, loopE, e1, e2, e3, if_pos (show acc.length ≤ sline by omega)]
        rw [e']
        simp
      · rcases List.mem_cons.mp he with z | z
        · rw [z]; exact hp
        · exact p' e z
    | false => exact absurd (h2 rfl).2 (by simp)
theorem loop_anyQ {vs : List Nat} {f : D → Rho → Option Rho} {t : Rho → Option (Bool × Rho)} {g : Rho → Option (D × Rho)} {α : Type} (enc : α → D) (Pe : D → Prop) (I : Rho → Prop) {its : List D} {xs : List α} {ρ : Rho} {Q : List D → Rho → Prop} (hi : its = xs.map enc) (hl : xs.length ≤ sline + 1) (hI : I ρ)
    (ht : ∀ x ∈ xs, ∀ ρ, I ρ → ∃ e, TurnI vs f t g I (enc x) ρ (some e) ∧ Pe e) (hq : ∀ r ρ', I ρ' → r.length = xs.length → (∀ e ∈ r, Pe e) → Q r ρ') : ∃ acc ρ2, loopE vs f t g its ρ [] = some (acc, ρ2) ∧ Q acc ρ2 := by
  subst hi
  obtain ⟨ρ', r, i', e, l', p'⟩ := loop_any enc Pe I xs [] ρ (by simpa using hl) hI ht
  exact ⟨_, _, e, by simpa using hq r ρ' i' l' p'⟩
/-- own[i] = d -/
theorem tgt_sub {C : Cf} {m : Str → Bool} {ok : Nat → Bool} {sc : Scope} {ev : Rho → Expr → Option (D × Rho)} {n : Nat} {x : Str} {px ps : Pos} {ie : Expr} {d : D} {ρ ρ1 : Rho} {i j : Nat} {xs0 xs : List D} {z : Int} (hn : notSlice ie = true) (hi : slotE C sc x = some i)
    (h0 : ρ[i]? = some (some (.ow xs0))) (he : ev ρ ie = some (.int z, ρ1)) (h1 : ρ1[i]? = some (some (.ow xs))) (hj : ixN xs.length z = some j) :
    tgtE C m ok sc ev (n + 1) (.Subscript (.Name x px) ie ps) d ρ = some (ρ1.set i (some (.ow (xs.set j d)))) := by
  simp only [tgtE, subT, hn, hi, h0, he, h1, hj, Bool.true_eq_false, if_false]
end Dv

set_option Elab.async false
set_option linter.all false
set_option maxRecDepth 100000
set_option maxHeartbeats 400000
namespace Dv
open PySem PySem.Spec L2 RZ
variable [TabC]
/-- a loop that may tell an answer on its way -/
theorem okf_for_rt {f : D → Rho → Option Rho} {b : Rho → Option Fl} {α : Type} (enc : α → D) (R : Nat → Rho → Prop) {Q : Fl → Prop} : ∀ (xs : List α) (k : Nat) (ρ : Rho), R k ρ →
    (∀ i ρ x, xs[i]? = some x → R (k + i) ρ → ∃ ρ1, f (enc x) ρ = some ρ1 ∧ OKf (b ρ1) fun fl => (∃ ρ2, fl = .nx ρ2 ∧ R (k + i + 1) ρ2) ∨ ∃ s ρ2, fl = .rt s ρ2 ∧ Q fl) →
    (∀ ρ', R (k + xs.length) ρ' → Q (.nx ρ')) → OKf (forE f b (xs.map enc) ρ) Q
  | [], k, ρ, h, _, hq => ⟨_, rfl, hq ρ h⟩
  | x :: xs, k, ρ, h, ht, hq => by
    obtain ⟨ρ1, e1, fl, e2, h2⟩ := ht 0 ρ x rfl h
    rcases h2 with ⟨ρ2, rfl, h2⟩ | ⟨s, ρ2, rfl, h2⟩
    · obtain ⟨fl, e3, h3⟩ := okf_for_rt enc R xs (k + 1) ρ2 h2 (fun i ρ y hy hr => by
        have e : k + 1 + i = k + (i + 1) := by omega
        rw [e] at hr ⊢
        exact ht (i + 1) ρ y (by simpa using hy) hr) (fun ρ' hr => by
        have e : k + 1 + xs.length = k + (x :: xs).length := by simp; omega
        rw [e] at hr
        exact hq ρ' hr)
      exact ⟨fl, by simp only [List.map_cons, forE, e1, e2]; exact e3, h3⟩
    · exact ⟨_, by simp only [List.map_cons, forE, e1, e2], h2⟩
/-- a comprehension of two clauses -/
theorem loop2_map {vs vs1 : List Nat} {f : D → Rho → Option Rho} {src : Rho → Option (List D × Rho)} {f1 : D → Rho → Option Rho} {g : Rho → Option (D × Rho)} {α β : Type} (enc : α → D) (enc1 : β → D) (its1 : α → List β) (h : α → β → D) (ρ0 : Rho) : ∀ (xs : List α) (acc : List D), acc.length + (xs.flatMap its1).length ≤ sline + 1 →
    (∀ x ∈ xs, ∃ ρ1 ρ2, f (enc x) ρ0 = some ρ1 ∧ src ρ1 = some ((its1 x).map enc1, ρ2) ∧ (∀ y ∈ its1 x, TurnOk vs1 f1 yesT g (enc1 y) (wipeR ρ2 vs1) (some (h x y))) ∧ wipeR (wipeR ρ2 vs1) vs = ρ0) →
    loop2E vs vs1 f src f1 g (xs.map enc) ρ0 acc = some (acc ++ xs.flatMap fun x => (its1 x).map (h x), ρ0)
  | [], acc, _, _ => by simp [loop2E]
  | x :: xs, acc, hl, ht => by
    obtain ⟨ρ1, ρ2, e1, e2, h1, h2⟩ := ht x List.mem_cons_self
    rw [List.flatMap_cons, List.length_append] at hl
    have e3 := loop_map (vs := vs1) (f := f1) (t := yesT) (g := g) enc1 (fun y => some (h x y)) (wipeR ρ2 vs1) (its1 x) acc (by omega) h1
    have e4 : (its1 x).filterMap (fun y => some (h x y)) = (its1 x).map (h x) := by
      induction its1 x with
      | nil => rfl
      | cons y ys ih => simp
    rw [e4] at e3
    have ih := loop2_map enc enc1 its1 h ρ0 xs (acc ++ (its1 x).map (h x)) (by rw [List.length_append, List.length_map]; omega) fun y hy => ht y (List.mem_cons_of_mem _ hy)
    simp only [List.map_cons, loop2E, e1, e2, e3, h2]
    rw [ih, List.flatMap_cons, List.append_assoc]
theorem loop2_mapQ {vs vs1 : List Nat} {f : D → Rho → Option Rho} {src : Rho → Option (List D × Rho)} {f1 : D → Rho → Option Rho} {g : Rho → Option (D × Rho)} {α β : Type} (enc : α → D) (enc1 : β → D) (its1 : α → List β) (h : α → β → D) {its : List D} {xs : List α} {ρ : Rho} {Q : List D → Rho → Prop} (hi : its = xs.map enc) (hl : (xs.flatMap its1).length ≤ sline + 1)
    (ht : ∀ x ∈ xs, ∃ ρ1 ρ2, f (enc x) ρ = some ρ1 ∧ src ρ1 = some ((its1 x).map enc1, ρ2) ∧ (∀ y ∈ its1 x, TurnOk vs1 f1 yesT g (enc1 y) (wipeR ρ2 vs1) (some (h x y))) ∧ wipeR (wipeR ρ2 vs1) vs = ρ) (hq : Q (xs.flatMap fun x => (its1 x).map (h x)) ρ) : ∃ acc ρ2, loop2E vs vs1 f src f1 g its ρ [] = some (acc, ρ2) ∧ Q acc ρ2 := by
  subst hi
  exact ⟨_, _, loop2_map enc enc1 its1 h ρ xs [] (by simpa using hl) ht, by simpa using hq⟩
theorem wTurn2_ok {C : Cf} {n : Nat} {sc : Scope} {vs : List Nat} {f : D → Rho → Option Rho} {elt : Expr} {d : D} {ρ0 : Rho} {o : Option D} (h : ∃ ρ1, f d ρ0 = some ρ1 ∧ (ws C n).d sc ρ1 elt fun e ρ3 => wipeR ρ3 vs = ρ0 ∧ o = some e) :
    TurnOk vs f yesT (fun ρ => (evs C n).d sc ρ elt) d ρ0 o := wTurn_ok (ifs := []) h
end Dv

set_option Elab.async false
set_option linter.all false
set_option maxRecDepth 100000
set_option maxHeartbeats 400000
namespace Dv
open PySem PySem.Spec L2 RZ
variable [TabC]
section
variable {P : Program} {w : World} {K : PySem.W.Frag} {mg : Str → Option Value} {base : Heap} {k : Nat} {gl : Str → Option Sl} {fns : Str → Option Fn}
/-- a def of the module as the top has left it -/
structure DefK (K : PySem.W.Frag) (x : Str) (st : Stmt) (f : Addr) : Prop where
  ex : ∃ (oc : Value) (od : Option Addr) (osl : Array (Option Value)) (kV doc pm : Value) (an : Option Addr) (cdv ct : Value), K.lookup f = some ⟨oc, od, .func (PySem.W.fnOf x x (defArgs st) (defBody st) (defScope st) .none kV doc pm an cdv ct), osl⟩ ∧
    PySem.W.codeIn K cdv x = true ∧ PySem.W.keepIn K (.ref f) = true
theorem DefK.fun {x : Str} {st : Stmt} {f : Addr} (h : DefK K x st f) : ∃ fd, Fun K x x st f fd := by
  obtain ⟨oc, od, osl, kV, doc, pm, an, cdv, ct, l, c, kk⟩ := h.ex
  exact ⟨_, fun_mk l c kk⟩
def addF (fns : Str → Option Fn) (x : Str) (fn : Fn) : Str → Option Fn := fun y => if y = x then some fn else fns y
theorem MOk.add (M : MOk gl fns P w K mg base k) {x : Str} {fn : Fn} (h : FOkP P w K mg base (k + 1) x fn) : MOk gl (addF fns x fn) P w K mg base (k + 1) :=
  ⟨M.gl, fun y g hy => by
    unfold addF at hy
    split at hy
    · rename_i e
      subst e
      cases hy
      exact h
    · exact (M.fns y g hy).mono (Nat.le_succ k), M.blt, M.isi, M.tys⟩
/-- one def more -/
theorem MOk.next (M : MOk gl fns P w K mg base k) {box : Bool} {ar : Nat} {tt : Bool} {N ps : List Str} {x : Str} {st : Stmt} {f : Addr} (D : DefK K x st f) (S : FnScope N ps (defScope st)) (hmg : mg x = some (.ref f)) (har : ar = ps.length) (hps : ps.length ≤ N.length)
    (hb : ∀ (kV doc pm : Value) (an : Option Addr) (cdv ct : Value) (us : List Value), us.length = ps.length → bindArgs (PySem.W.fnOf x x (defArgs st) (defBody st) (defScope st) .none kV doc pm an cdv ct) ⟨us, []⟩ = pure (ps.zip us)) :
    MOk gl (addF fns x (evFn N gl fns st box ar tt)) P w K mg base (k + 1) := by
  obtain ⟨fd, F⟩ := D.fun
  exact M.add (evFn_ok F (F.binds hb) S M hmg har hps)
end
end Dv

set_option Elab.async false
set_option linter.all false
set_option maxRecDepth 100000
set_option maxHeartbeats 1000000
namespace Dv
open PySem PySem.Spec L2 RZ
open PyProof.Rows (envOfC)
variable [TabC]
/-! what a def raises: the name of the class, of which its arguments tell -/
/-- an own exception class, made with one text -/
structure RaiM (K : PySem.W.Frag) (mg : Str → Option Value) (c : Str) : Prop where
  ex : ∃ (C : Addr) (bmB : List Value) (B newId initId : String), ExcBaseFacts B newId initId bmB ∧ PySem.W.excIn K C bmB newId = true ∧ mg c = some (.ref C) ∧ PySem.W.keepIn K (.ref C) = true ∧
    PySem.W.subIn K (.ref C) (.type "BaseException") = some true ∧ PySem.W.typeIn K (.ref C) = some (.type "type")
structure RzF where
  ar : Nat
  run : List Sl → Option Str
def spR (G : Ctx) (g : RzF) : Sp := fun vs H _ E => vs.length = g.ar ∧ ∃ H0, TbOk H0 H ∧ Ex H0 H ∧ ∃ as cn, RArgs G H0 as vs ∧ g.run as = some cn ∧
  ∀ H' H0' C, TrF none H0 H H0' H' → G.2 cn = some (.ref C) → E (.ref C) none H'
structure FRz (P : Program) (w : World) (K : PySem.W.Frag) (mg : Str → Option Value) (base : Heap) (k : Nat) (x : Str) (g : RzF) : Prop where
  ex : ∃ f fd ps, mg x = some (.ref f) ∧ PySem.W.keepIn K (.ref f) = true ∧ FnOk P w K mg base (L2.CX P w) k f fd ps (spR (K, mg) g) ∧ Binds K fd ps []
theorem FRz.mono {P : Program} {w : World} {K : PySem.W.Frag} {mg : Str → Option Value} {base : Heap} {j k : Nat} {x : Str} {g : RzF} (F : FRz P w K mg base j x g) (h : j ≤ k) : FRz P w K mg base k x g := by
  obtain ⟨f, fd, ps, a, b, c, d⟩ := F.ex
  exact ⟨f, fd, ps, a, b, c.mono h, d⟩
/-- .. from a state that W wishes for -/
def RWx (G : Ctx) (W : WX) (ρ : Rho) (σ : St) (H0 H : Hp) (cn : Str) : Prop := ∀ ρ' σ' H' H0' C, Tr ρ σ H0 H ρ' σ' H0' H' → REnv G ρ' σ' H0' H' → G.2 cn = some (.ref C) → W (.ref C) none σ' H'
def tRz (G : Ctx) (W : WX) (f : Rho → Option Str) : TS := fun _ σ H => ∃ ρ cn H0, f ρ = some cn ∧ REnv G ρ σ H0 H ∧ RWx G W ρ σ H0 H cn
def rzL (ex : Rho → Stmt → Option Fl) (hd : Rho → Stmt → Option Str) : List Stmt → Rho → Option Str
  | [], _ => none
  | s :: ss, ρ => match hd ρ s with
    | some c => some c
    | none => match ex ρ s with
      | some (.nx ρ1) => rzL ex hd ss ρ1
      | _ => none
def rzC (r : Evs) (RF : Str → Option RzF) (sc : Scope) (f : Str) (es : List Expr) (ρ : Rho) : Option Str :=
  if globB sc f = true ∧ plainName f = true ∧ es.all notStar = true then match RF f with
    | some g => match evDs (r.d sc) es ρ with
      | some (ds, _) => if ds.length = g.ar then g.run (ds.map .im) else none
      | none => none
    | none => none
  else none
def rzS (r : Evs) (ex : Rho → Stmt → Option Fl) (RC : Str → Bool) (RF : Str → Option RzF) (sc : Scope) : Nat → Rho → Stmt → Option Str
  | 0, _, _ => none
  | n + 1, ρ, .If t a b _ => match r.t sc ρ t with
    | some (true, ρ1) => rzL ex (rzS r ex RC RF sc n) a ρ1
    | some (false, ρ1) => rzL ex (rzS r ex RC RF sc n) b ρ1
    | none => none
  | _ + 1, _, .Raise (some (.Call (.Name c _) [.Constant (.str _) _ _] [] _)) none _ => if globB sc c = true ∧ plainName c = true ∧ RC c = true then some c else none
  | _ + 1, ρ, .Expr (.Call (.Name f _) (e :: es) [] _) _ => rzC r RF sc f (e :: es) ρ
  | _ + 1, ρ, .Return (some (.Call (.Name f _) (e :: es) [] _)) _ => rzC r RF sc f (e :: es) ρ
  | _ + 1, _, _ => none
section
variable {X : L2.Cx} {C : Cf} {sc : Scope} {k : Nat} {W : WX} {ok : Nat → Bool}
theorem RWx.via {G : Ctx} {ρ ρ1 : Rho} {σ σ1 : St} {H0 H H01 H1 : Hp} {cn : Str} (T : Tr ρ σ H0 H ρ1 σ1 H01 H1) (h : RWx G W ρ σ H0 H cn) : RWx G W ρ1 σ1 H01 H1 cn := fun ρ' σ' H' H0' C T' E' e => h ρ' σ' H' H0' C (T.trans T') E' e
theorem pss_off (l : List Stmt) : PSs X l (fun _ _ _ => False) := ⟨fun _ _ _ _ _ _ h => h.elim⟩
theorem pss_rz {ex : Rho → Stmt → Option Fl} {hd : Rho → Stmt → Option Str} (hx : ∀ s, PS X s (tF (Cx.G X) ok fun ρ => ex ρ s)) (hh : ∀ s, PS X s (tRz (Cx.G X) W fun ρ => hd ρ s)) : ∀ l, PSs X l (tRz (Cx.G X) W (rzL ex hd l))
  | [] => PSs.of fun D σ H q => by
    obtain ⟨ρ, cn, H0, hf, _⟩ := q
    cases hf
  | s :: ss => PSs.of fun D σ H q => by
    obtain ⟨ρ, cn, H0, hf, E, p⟩ := q
    unfold rzL at hf
    split at hf
    · rename_i c hc
      cases hf
      exact ⟨_, pss_cons (hh s) (pss_off ss), ρ, cn, H0, hc, E, p⟩
    · split at hf
      · rename_i ρ1 h1
        refine ⟨_, pss_cons (hx s) (pss_rz hx hh ss), ρ, .nx ρ1, H0, h1, E, ?_⟩
        intro σ' H' H0' T' E' k'
        exact ⟨ρ1, cn, H0', hf, E', p.via T'⟩
      · cases hf
theorem rargs_im {G : Ctx} {H : Hp} : ∀ {ds : List D} {vs : List V}, Reps G H ds vs → RArgs G H (ds.map .im) vs
  | [], _, h => by simpa only [Reps, RArgs, List.map_nil] using h
  | d :: ds, _, h => by
    simp only [Reps] at h
    obtain ⟨w, ws, rfl, h1, h2⟩ := h
    exact ⟨w, ws, rfl, h1, rargs_im h2⟩
theorem pe_rz (S : COk C sc k X) (tk : Takes X W) {r : Evs} (R : Sound C k r) {RF : Str → Option RzF} (hRF : ∀ f g, RF f = some g → FRz X.prog X.w X.K X.mg X.base k f g) {f : Str} {e : Expr} {es : List Expr} {p pos : Pos}
    {σ : St} {H H0 : Hp} {Q : VK} {ρ : Rho} {cn : Str} (hf : rzC r RF sc f (e :: es) ρ = some cn) (E : REnv (Cx.G X) ρ σ H0 H) (q : RWx (Cx.G X) W ρ σ H0 H cn) : ∃ t, PE X (.Call (.Name f p) (e :: es) [] pos) t ∧ t σ H Q := by
  unfold rzC at hf
  split at hf
  · rename_i hc
    obtain ⟨hg, hd, hs⟩ := hc
    split at hf
    · rename_i g hg'
      obtain ⟨fa, fd, ps, hm, hk, F, B⟩ := (hRF f g hg').ex
      simp only [plainName, Bool.and_eq_true, Bool.not_eq_true'] at hd
      simp only [List.all_cons, Bool.and_eq_true] at hs
      split at hf
      · rename_i ds ρ1 h1
        refine ⟨_, pe_callS (E := WE W) F S.room (gl_of S.toCOkB hg) hm hk B (passAt tk) (pa_of (fun e => R.d S e) (e :: es)) hd.1 (star_of hs.1) (star_plain hs.2), ?_⟩
        split at hf
        · rename_i hl
          refine ⟨ρ, ds, ρ1, H0, h1, E, fun vs H1 H01 T1 E1 r1 => ?_⟩
          refine ⟨by rw [← r1.length, hl], H01, E1.tb, E1.ex, ds.map .im, cn, rargs_im r1, hf, fun H' H0' C T e => ?_⟩
          obtain ⟨t1, t2, _⟩ := after_none (s := .im .none) (v := .non) E1 T (rep_non (G := Cx.G X) (H := H0'))
          exact q ρ1 σ H' H0' C (T1.trans t1) t2 e
        · cases hf
      · cases hf
    · cases hf
  · cases hf
theorem raises_ok {c : Str} (h : RaiM X.K X.mg c) (hg : globB sc c = true) (hd : plainName c = true) (S : SOk C sc k X) (tk : Takes X W) {m : Str} {j : Nat} {p p2 p3 pos : Pos} :
    PS X (.Raise (some (.Call (.Name c p) [.Constant (.str m) j p2] [] p3)) none pos) (tRz (Cx.G X) W fun _ => some c) := by
  obtain ⟨CC, bmB, B, newId, initId, F, q, gC, kC, h1, h2⟩ := h.ex
  simp only [plainName, Bool.and_eq_true, Bool.not_eq_true'] at hd
  have hp := ps_raise (pos := pos) S.K.calm tk (pmk_own (m := m) (j := j) (p := p) (p2 := p2) (pos := p3) F q gC kC (raises_own h1 h2) (gl_of S.K.toCOkB hg) hd.1)
  refine PS.of fun D σ H ⟨ρ, cn, H0, hf, E, z⟩ => ⟨_, hp, ?_⟩
  cases hf
  exact z ρ σ H H0 CC (Tr.refl _ _ _ _) E gC
theorem rzS_ok {r : Evs} {ex : Rho → Stmt → Option Fl} {RC : Str → Bool} {RF : Str → Option RzF} (S : SOk C sc k X) (tk : Takes X W) (R : Sound C k r) (hx : ∀ s, PS X s (tF (Cx.G X) ok fun ρ => ex ρ s))
    (hRC : ∀ c, RC c = true → RaiM X.K X.mg c) (hRF : ∀ f g, RF f = some g → FRz X.prog X.w X.K X.mg X.base k f g) : ∀ n s, PS X s (tRz (Cx.G X) W fun ρ => rzS r ex RC RF sc n ρ s)
  | 0, s => PS.of fun D σ H ⟨ρ, cn, H0, hf, _⟩ => by cases hf
  | n + 1, s => PS.of fun D σ H q => by
    obtain ⟨ρ, cn, H0, hf, E, p⟩ := q
    dsimp only at hf
    unfold rzS at hf
    split at hf
    · cases hf
    · rename_i ρ _ _ _ _ t a b pos he
      cases he
      have hr := rzS_ok S tk R hx hRC hRF n
      have hc := (R sc X S.K).2 t
      cases h1 : r.t sc ρ t with
      | none => rw [h1] at hf; cases hf
      | some v =>
        obtain ⟨v, ρ1⟩ := v
        rw [h1] at hf
        refine ⟨_, ps_if hc (pss_rz hx hr a) (pss_rz hx hr b), ρ, v, ρ1, H0, h1, E, fun H1 H01 T1 E1 => ?_⟩
        cases v with
        | true =>
          rw [if_pos rfl]
          exact ⟨ρ1, cn, H01, hf, E1, p.via T1⟩
        | false =>
          rw [if_neg Bool.false_ne_true]
          exact ⟨ρ1, cn, H01, hf, E1, p.via T1⟩
    · split at hf
      · rename_i hc
        exact ⟨_, raises_ok (hRC _ hc.2.2) hc.1 hc.2.1 S tk, _, cn, H0, hf, E, p⟩
      · cases hf
    · obtain ⟨t, h1, h2⟩ := pe_rz (Q := fun _ H' => D.nx σ H') S.K tk R hRF hf E p
      exact ⟨_, ps_expr h1 (sw_no rfl _ _ _), h2⟩
    · obtain ⟨t, h1, h2⟩ := pe_rz (Q := D.rt) S.K tk R hRF hf E p
      exact ⟨_, ps_ret h1, h2⟩
    · cases hf
end
end Dv
namespace Dv
open PySem PySem.Spec L2 RZ
open PyProof.Rows (envOfC)
variable [TabC]
/-- what a def raises, as the evaluator runs its body -/
def evRz (N : List Str) (gl : Str → Option Sl) (fns : Str → Option Fn) (RC : Str → Bool) (RF : Str → Option RzF) (st : Stmt) (ar : Nat) : RzF := ⟨ar, fun as =>
  rzL (exs ⟨N, gl, fns, ({ b := false } : Xt)⟩ (evs ⟨N, gl, fns, ({ b := false } : Xt)⟩ 14) (defScope st) (fun _ => true) 200 14) (rzS (evs ⟨N, gl, fns, ({ b := false } : Xt)⟩ 14) (exs ⟨N, gl, fns, ({ b := false } : Xt)⟩ (evs ⟨N, gl, fns, ({ b := false } : Xt)⟩ 14) (defScope st) (fun _ => true) 200 14) RC RF (defScope st) 14)
    (defBody st) (entR N ⟨false, ar, fun _ _ => none⟩ [] as)⟩
section
variable {P : Program} {w : World} {K : PySem.W.Frag} {mg : Str → Option Value} {base : Heap} {k : Nat} {gl : Str → Option Sl} {fns : Str → Option Fn}
theorem fnR_ok {RC : Str → Bool} {RF : Str → Option RzF} {N ps : List Str} {x qual : Str} {st : Stmt} {f : Addr} {fd : FuncData} {ar : Nat} (F : Fun K x qual st f fd) (b : Binds K fd ps []) (S : FnScope N ps (defScope st)) (M : MOk gl fns P w K mg base k)
    (hRC : ∀ c, RC c = true → RaiM K mg c) (hRF : ∀ f g, RF f = some g → FRz P w K mg base k f g) (hmg : mg x = some (.ref f)) (har : ar = ps.length) (hps : ps.length ≤ N.length) : FRz P w K mg base (k + 1) x (evRz N gl fns RC RF st ar) := by
  refine ⟨f, fd, ps, hmg, F.kp, F.okX S (fun vs H Q E h => h.1.trans har) (fun cdv A outer s H vs Q E hr h => ?_), b⟩
  obtain ⟨hlen, H0, htb, hex, as, cn, ra, hg, hq⟩ := h
  have SO : SOk ⟨N, gl, fns, ({ b := false } : Xt)⟩ (defScope st) k (cxOf (L2.CX P w) P w K mg base N qual (defScope st) f cdv A outer s H E) :=
    ⟨⟨⟨rfl, S.nd, rfl, M.gl⟩, (fun _ z => nomatch z), (fun z => nomatch z), rfl, hr, fun x fn h => (M.fns x fn h).here hr, M.blt, M.isi, M.tys⟩, fun _ => rfl, S.kind, passes_of (X := cxOf (L2.CX P w) P w K mg base N qual (defScope st) f cdv A outer s H E) rfl⟩
  have tk : Takes (cxOf (L2.CX P w) P w K mg base N qual (defScope st) f cdv A outer s H E) (fun cls d _ H => E cls d H) := takes_of rfl rfl rfl rfl
  have hx := exs_ok (wf := 200) (ok := fun _ => true) (evs_ok 14) SO 14
  refine ⟨_, pss_rz hx (rzS_ok SO tk (evs_ok 14) hx hRC hRF 14) (defBody st), ?_⟩
  have hal := RArgs.length ra
  have he : entR N ⟨false, ar, fun _ _ => none⟩ [] as = as.map some ++ List.replicate (N.length - as.length) none := by
    unfold entR; simp
  have hg' : rzL _ _ (defBody st) (entR N ⟨false, ar, fun _ _ => none⟩ [] as) = some cn := hg
  rw [he] at hg'
  refine ⟨_, cn, H0, hg', env_plain htb hex ra (by rw [hlen]; show ar ≤ _; omega), fun ρ' σ' H' H0' C T' E' e => ?_⟩
  exact hq H' H0' C ⟨T'.ex, E'.ex, E'.tb, fun a o e1 nt e2 _ => T'.fr' a o e1 nt e2 (fun z => own_plain ra z), T'.kp⟩ e
end
end Dv

set_option Elab.async false
set_option linter.all false
set_option maxRecDepth 100000
set_option maxHeartbeats 1000000
namespace Dv
open PySem PySem.Spec L2 RZ
open PyProof.Rows (envOfC)
variable [TabC]
/-! what is asked of an exception that a caller holds: isinstance; the count and the place of a flat item in an own list -/
/-- the exception at a, of the own class at D, stood untracked when the def was entered -/
structure Held (Y : L2.Cx) (a D : Addr) : Prop where
  ex : ∃ oe vs, Y.s_0.heap.get? a = some oe ∧ Zc (.ref D) none oe ∧ oe.data = .fields vs
  un : Y.H_0 a = none
  fs : a ∉ Y.fs
  no : Y.ex = []
theorem call_isH {Y : L2.Cx} {a D : Addr} (C : ExcC Y.K D) (h : Held Y a D) : CallR Y (.builtin "isinstance") (rIsE Y.K D a) := by
  intro pins s σ H xs us Q I r q
  obtain ⟨c, cv, b, rfl, hcv, e, q⟩ := q
  obtain ⟨u1, u2, rfl, r1, r2⟩ := vals2 r
  cases r1
  obtain rfl := hcv _ r2
  obtain ⟨oe, vs, h1, hz, hd⟩ := h.ex
  have at_ : s.heap.get? a = some oe := I.base.keep a oe h1 h.un h.fs (by rw [h.no]; exact fun z => nomatch z)
  have J : PySem.W.InstAt s.heap a oe D none := by
    cases oe with
    | mk oc od oda osl =>
      obtain ⟨z1, z2⟩ := hz
      simp only at z1 z2 hd
      subst z1 z2 hd
      exact ⟨at_, rfl, rfl, trivial⟩
  exact PySem.W.kia_one (PySem.W.handS_kitx_exc C.hg C.hk C.hs C.hd C.ha C.hn C.ht C.hm) I.kIn J e (fun z => nomatch z) fun tk => ⟨.bl b, H, I.tok tk, rfl, q⟩
section
variable {X : L2.Cx} {C : Cf} {sc : Scope} {k : Nat} {pos p : Pos}
/-- list.count of a flat item -/
def rCntF (K : PySem.W.Frag) : V → List V → Hp → VK → Prop := fun x xs H Q => ∃ (b : Addr) (ys : List V) (y : V), x = .ref b ∧ xs = [y] ∧ SqL K H b ys ∧ flatV y = true ∧ ys.all flatV = true ∧ Q (.int (ys.countP fun z => eqV z y : Nat)) H
theorem mt_countF : MtR X "list.count" (rCntF X.K) := by
  intro pins s σ H x xs v us Q I rx rxs h
  obtain ⟨b, ys, y, rfl, rfl, hs, fy, fs, q⟩ := h
  cases rx
  obtain ⟨u, rfl, ru⟩ := rxs.one
  obtain ⟨ts, rv, ⟨⟨cls, dd, data, sl⟩, n, ho, hc, _, hd⟩, _⟩ := I.list hs
  simp only at hc hd
  subst hc hd
  refine call_meets PySem.F.slot_list_count ⟨_, ho, rfl⟩ PySem.F.entry_list_count (PySem.F.args_list_count_2 _ _) (SeqAt.list_countAt b ts.toArray n dd sl u (eqU y)) ⟨ho, fun z hz => mem_eqAt ru fy rv fs z (by simpa using hz), ?_⟩
  have e2 : ts.toArray.toList.countP (eqU y) = ys.countP fun z => eqV z y := countP_eqU rv fs
  refine ⟨.int (ys.countP fun z => eqV z y : Nat), H, I.tok _, ⟨s.toks, ?_⟩, q⟩
  show Value.int ((ts.toArray.toList.countP (eqU y) : Nat) : Int) s.toks = Value.int ((ys.countP fun z => eqV z y : Nat) : Int) s.toks
  rw [e2]
/-- the list that a slot holds, own or not -/
def lstAt (ρ : Rho) (i : Nat) : Option (List D) := match ρ[i]? with
  | some (some (.ow ds)) => some ds
  | some (some (.im (.list ds))) => some ds
  | _ => none
theorem lstAt_ok {G : Ctx} {ρ : Rho} {σ : St} {H0 H : Hp} (E : REnv G ρ σ H0 H) {i : Nat} {ds : List D} (h : lstAt ρ i = some ds) : ∃ b vs, σ[i]? = some (some (.ref b)) ∧ H b = some (.lst vs) ∧ Reps G H0 ds vs := by
  unfold lstAt at h
  split at h
  · rename_i xs hx
    cases h
    obtain ⟨b, vs, h1, h2, _, h4⟩ := E.ow i _ hx
    exact ⟨b, vs, h1, h2, h4⟩
  · rename_i xs hx
    cases h
    obtain ⟨v, h1, h2⟩ := E.im i _ hx
    obtain ⟨b, vs, rfl, h3, h4⟩ := h2.lst
    exact ⟨b, vs, h1, E.ex _ _ h3, h4⟩
  · cases h
def cntL (i : Nat) (d : D) (ρ : Rho) : Option (Sl × Rho) := match lstAt ρ i with
  | some ds => if flatD d = true ∧ ds.all flatD = true then some (.im (.int (cntD d ds : Nat)), ρ) else none
  | none => none
def idxL (i : Nat) (d : D) (ρ : Rho) : Option (Sl × Rho) := match lstAt ρ i with
  | some ds => if flatD d = true ∧ ds.all flatD = true then (ds.findIdx? fun y => PyData.eqv y d).map fun j => (.im (.int (j : Nat)), ρ) else none
  | none => none
theorem pe_cntL (K : COkB C sc X) {x : Str} {px pc apos cpos : Pos} {i j : Nat} {c : Const} {d : D} (hi : slotE C sc x = some i) (hc : constE c = some d) (hl : (apos.endLine == cpos.line) = true) :
    PE X (.Call (.Attribute (.Name x px) "count" apos) [.Constant c j pc] [] cpos) (tS (Cx.G X) (cntL i d)) := PE.of fun σ H Q q => by
  have he : PE X (.Constant c j pc) (tD (Cx.G X) fun ρ => (constE c).map fun d => (d, ρ)) := pe_constD _ _
  refine ⟨_, pe_bm PySem.F.plainAttrs_list PySem.F.slot_list_count PySem.F.type_list_count mt_countF (slot_pe K hi) (pa_cons he pa_nil) rfl (by rfl) hl, ?_⟩
  obtain ⟨ρ, s, ρ', H0, hev, E, q⟩ := q
  unfold cntL at hev
  split at hev
  · rename_i ds hx
    split at hev
    · rename_i hf
      cases hev
      obtain ⟨b, vs, h1, h2, h4⟩ := lstAt_ok E hx
      refine ⟨_, h1, .inl ⟨rfl, _, SqL.of h2⟩, ρ, d, ρ, H0, by rw [hc]; rfl, E, fun v H1 H01 T1 E1 r1 => ?_⟩
      obtain ⟨b1, vs1, g1, g2, g4⟩ := lstAt_ok E1 hx
      rw [h1] at g1
      cases g1
      obtain ⟨fs, _⟩ := inV_of hf.1 r1 hf.2 g4
      refine ⟨b, vs1, v, rfl, rfl, SqL.of g2, flat_v hf.1 r1, fs, ?_⟩
      rw [cntD_of hf.1 r1 hf.2 g4]
      exact q _ _ _ T1 E1 (rsl_im (rep_int _))
    · cases hev
  · cases hev
theorem idxV_of {G : Ctx} {H : Hp} {d : D} {x : V} (h : flatD d = true) (r : Rep G H d x) : ∀ {ds : List D} {vs : List V} {j : Nat}, ds.all flatD = true → Reps G H ds vs → (ds.findIdx? fun y => PyData.eqv y d) = some j →
    ∃ z, vs[j]? = some z ∧ eqV z x = true ∧ ∀ (m : Nat) z', m < j → vs[m]? = some z' → eqV z' x = false
  | [], _, _, _, _, e => by simp at e
  | e0 :: ds, _, j, ha, q, e => by
    simp only [Reps] at q
    obtain ⟨w, ws, rfl, h1, h2⟩ := q
    simp only [List.all_cons, Bool.and_eq_true] at ha
    have ew := eqV_of ha.1 h h1 r
    rw [List.findIdx?_cons] at e
    cases hb : PyData.eqv e0 d with
    | true =>
      rw [hb] at e
      cases e
      exact ⟨w, rfl, by rw [ew, hb], fun m z' hm => by omega⟩
    | false =>
      rw [hb] at e
      simp only [Bool.false_eq_true, if_false] at e
      cases hj : ds.findIdx? fun y => PyData.eqv y d with
      | none => rw [hj] at e; cases e
      | some j' =>
        rw [hj] at e
        cases e
        obtain ⟨z, z1, z2, z3⟩ := idxV_of h r ha.2 h2 hj
        refine ⟨z, by simpa using z1, z2, fun m z' hm hz => ?_⟩
        cases m with
        | zero =>
          simp at hz
          subst hz
          rw [ew, hb]
        | succ m => exact z3 m z' (by have hm : m + 1 < j' + 1 := hm; omega) (by simpa using hz)
theorem pe_idxL (K : COkB C sc X) {x : Str} {px pc apos cpos : Pos} {i j : Nat} {c : Const} {d : D} (hi : slotE C sc x = some i) (hc : constE c = some d) (hl : (apos.endLine == cpos.line) = true) :
    PE X (.Call (.Attribute (.Name x px) "index" apos) [.Constant c j pc] [] cpos) (tS (Cx.G X) (idxL i d)) := PE.of fun σ H Q q => by
  have he : PE X (.Constant c j pc) (tD (Cx.G X) fun ρ => (constE c).map fun d => (d, ρ)) := pe_constD _ _
  refine ⟨_, pe_bm PySem.F.plainAttrs_list PySem.F.slot_list_index PySem.F.type_list_index mt_index (slot_pe K hi) (pa_cons he pa_nil) rfl (by rfl) hl, ?_⟩
  obtain ⟨ρ, s, ρ', H0, hev, E, q⟩ := q
  unfold idxL at hev
  split at hev
  · rename_i ds hx
    split at hev
    · rename_i hf
      cases hk : ds.findIdx? fun y => PyData.eqv y d with
      | none => rw [hk] at hev; cases hev
      | some m =>
        rw [hk] at hev
        cases hev
        obtain ⟨b, vs, h1, h2, h4⟩ := lstAt_ok E hx
        refine ⟨_, h1, .inl ⟨rfl, _, SqL.of h2⟩, ρ, d, ρ, H0, by rw [hc]; rfl, E, fun v H1 H01 T1 E1 r1 => ?_⟩
        obtain ⟨b1, vs1, g1, g2, g4⟩ := lstAt_ok E1 hx
        rw [h1] at g1
        cases g1
        obtain ⟨fs, _⟩ := inV_of hf.1 r1 hf.2 g4
        obtain ⟨z, z1, z2, z3⟩ := idxV_of hf.1 r1 hf.2 g4 hk
        exact ⟨b, vs1, v, m, z, rfl, rfl, SqL.of g2, flat_v hf.1 r1, fs, z1, z2, z3, q _ _ _ T1 E1 (rsl_im (rep_int _))⟩
    · cases hev
  · cases hev
end
end Dv

set_option Elab.async false
set_option linter.all false
set_option maxRecDepth 100000
set_option maxHeartbeats 1000000
namespace Dv
open PySem PySem.Spec L2 RZ
variable [TabC]
/-! a small evaluator for a def called from an except suite, with the exception as its argument: no call of a def, no loop, no comprehension -/
/-- where the exception stands; what isinstance tells of its class -/
structure HotP where
  ix : Str → Option Bool
structure IxOk (K : PySem.W.Frag) (mg : Str → Option Value) (Dc : Addr) (ix : Str → Option Bool) : Prop where
  ok : ∀ c b, ix c = some b → (∃ Cc, mg c = some (.ref Cc) ∧ PySem.W.kitOne K (.ref Dc) (.ref Cc) = some b) ∨ ∃ T : String, mg c = none ∧ bootBuiltins c = some (.type T) ∧ c ≠ "__name__" ∧ PySem.W.kitOne K (.ref Dc) (.type T) = some b
def isxE (C : Cf) (hp : HotP) (sc : Scope) (f y c : Str) (ρ : Rho) : Option (Sl × Rho) :=
  if f = "isinstance" ∧ globB sc "isinstance" = true ∧ globB sc c = true ∧ plainName c = true then match slotE C sc y with
    | some i => match ρ[i]? with
      | some (some (.im (.dict [(.bool _, .none)]))) => (hp.ix c).map fun b => (.im (.bool b), ρ)
      | _ => none
    | none => none
  else none
def hStepE (C : Cf) (hp : HotP) (r : Evs) (sc : Scope) (ρ : Rho) : Expr → Option (Sl × Rho)
  | .Constant c _ _ => imE ((constE c).map fun d => (d, ρ))
  | .Name x _ => nameE C sc x ρ
  | .List es _ => lstE (evDs (r.d sc) es) ρ
  | .BinOp a op b _ => binE op (fun ρ => r.d sc ρ a) (fun ρ => r.d sc ρ b) ρ
  | .UnaryOp .Not a _ => imE (notD (fun ρ => r.d sc ρ a) ρ)
  | .BoolOp op es _ => imE (boolE op (r.d sc) es ρ)
  | .Compare a [op] [b] _ => imE (toD (cmpE op b (fun ρ => r.d sc ρ a) (fun ρ => r.d sc ρ b)) ρ)
  | .Subscript a b _ => if notSlice b = true then imE (ixE (fun ρ => r.d sc ρ a) (fun ρ => r.d sc ρ b) ρ) else none
  | .Call (.Name f _) [.Name y _, .Name c _] [] _ => isxE C hp sc f y c ρ
  | .Call (.Attribute (.Name x _) m apos) [.Constant c _ _] [] cpos => if (apos.endLine == cpos.line) = true then match slotE C sc x, constE c with
      | some i, some d => if m = "count" then cntL i d ρ else if m = "index" then idxL i d ρ else none
      | _, _ => none
    else none
  | _ => none
def hStepT (r : Evs) (sc : Scope) (ρ : Rho) : Expr → Option (Bool × Rho)
  | .UnaryOp .Not a _ => notTE (fun ρ => r.t sc ρ a) ρ
  | .BoolOp op es _ => boolTE op (r.t sc) es ρ
  | .Compare a [op] [b] _ => cmpE op b (fun ρ => r.d sc ρ a) (fun ρ => r.d sc ρ b) ρ
  | e => if plainTest e then truE (fun ρ => r.d sc ρ e) ρ else none
def hEvs (C : Cf) (hp : HotP) : Nat → Evs
  | 0 => ⟨fun _ _ _ => none, fun _ _ _ => none⟩
  | n + 1 => ⟨hStepE C hp (hEvs C hp n), hStepT (hEvs C hp n)⟩
section
variable {X : L2.Cx} {C : Cf} {sc : Scope} {hp : HotP} {Dc : Addr} {ok : Nat → Bool}
theorem pe_isx (B : COkB C sc X) (hm : X.mg "isinstance" = none) (hI : IxOk X.K X.mg Dc hp.ix) (hc : CallR X (.builtin "isinstance") (rIsE X.K Dc TabC.ea)) {y c : Str} {p p2 p3 pos : Pos}
    (hg : globB sc "isinstance" = true) (hgc : globB sc c = true) (hpc : plainName c = true) : PE X (.Call (.Name "isinstance" p) [.Name y p2, .Name c p3] [] pos) (tS (Cx.G X) (isxE C hp sc "isinstance" y c)) := PE.of fun σ H Q q => by
  obtain ⟨ρ, s, ρ', H0, hev, E, q⟩ := q
  unfold isxE at hev
  rw [if_pos ⟨rfl, hg, hgc, hpc⟩] at hev
  split at hev
  · rename_i i hi
    split at hev
    · rename_i b0 hx
      · cases hb : hp.ix c with
        | none => rw [hb] at hev; cases hev
        | some b =>
          rw [hb] at hev
          cases hev
          obtain ⟨v, h1, h2⟩ := E.im i _ hx
          have h3 : v = .ref TabC.ea := by
            have z : RepX (Cx.G X) H0 [(.bool b0, .none)] v := by simpa only [Rep] using h2
            exact z
          subst h3
          simp only [plainName, Bool.and_eq_true, Bool.not_eq_true'] at hpc
          have fin : Q (.bl b) H := q _ H H0 (Tr.refl _ _ _ _) E (rsl_im (rep_bl _))
          rcases hI.ok c b hb with ⟨Cc, m1, m2⟩ | ⟨T, m1, m2, m3, m4⟩
          · have hT : PE X (.Name c p3) (tC (.ref Cc)) := pe_glob (gl_of B hgc) m1 rfl hpc.1
            exact ⟨_, pe_callB hc (gl_of B hg) hm (by decide +kernel) (pa_cons (slot_pe B hi) (pa_cons hT pa_nil)) (by decide) (by decide) (by rfl) (by rfl), _, h1, .ref Cc, .ref Cc, b, rfl, fun u e => e, m2, fin⟩
          · have hT : PE X (.Name c p3) (tC (.ty T)) := pe_bltn (gl_of B hgc) m1 m2 rfl m3 hpc.1
            exact ⟨_, pe_callB hc (gl_of B hg) hm (by decide +kernel) (pa_cons (slot_pe B hi) (pa_cons hT pa_nil)) (by decide) (by decide) (by rfl) (by rfl), _, h1, .ty T, .type T, b, rfl, fun u e => e, m4, fin⟩
    · cases hev
  · cases hev
theorem hStep_ok (B : COkB C sc X) (hu : X.A.units + 64 < cLine) (hm : X.mg "isinstance" = none) (hI : IxOk X.K X.mg Dc hp.ix) (hc : CallR X (.builtin "isinstance") (rIsE X.K Dc TabC.ea)) {r : Evs}
    (he : ∀ e, PE X e (tS (Cx.G X) fun ρ => r.e sc ρ e)) (ht : ∀ e, PT X e (tT (Cx.G X) fun ρ => r.t sc ρ e)) :
    (∀ e, PE X e (tS (Cx.G X) fun ρ => hStepE C hp r sc ρ e)) ∧ ∀ e, PT X e (tT (Cx.G X) fun ρ => hStepT r sc ρ e) := by
  have hd : ∀ e, PE X e (tD (Cx.G X) fun ρ => r.d sc ρ e) := fun e => tD_of (he e)
  refine ⟨fun e => PE.of fun σ H Q q => ?_, fun e => PT.of fun σ H Q q => ?_⟩
  · obtain ⟨ρ, s, ρ', H0, hev, E, q⟩ := q
    dsimp only at hev
    unfold hStepE at hev
    split at hev
    · exact of_D (pe_constD _ _) hev E q
    · exact ⟨_, pe_name B _, ρ, s, ρ', H0, hev, E, q⟩
    · exact ⟨_, pe_lstD (pa_of hd _), ρ, s, ρ', H0, hev, E, q⟩
    · exact ⟨_, pe_binS (hd _) (hd _), ρ, s, ρ', H0, hev, E, q⟩
    · exact of_D (pe_notD (hd _)) hev E q
    · exact of_D (pe_boolD hd _) hev E q
    · exact of_D (pe_cmpD hu (hd _) (hd _)) hev E q
    · split at hev
      · rename_i hns
        exact of_D (pe_ixD hns (hd _) (hd _)) hev E q
      · cases hev
    · rename_i f pf y py c pc pos
      have h0 := hev
      unfold isxE at h0
      split at h0
      · rename_i hf
        obtain ⟨rfl, h1, h2, h3⟩ := hf
        exact ⟨_, pe_isx B hm hI hc h1 h2 h3, ρ, s, ρ', H0, hev, E, q⟩
      · cases h0
    · split at hev
      · rename_i hl
        split at hev
        · rename_i i d hi hd'
          split at hev
          · rename_i e1
            subst e1
            exact ⟨_, pe_cntL B hi hd' hl, ρ, s, ρ', H0, hev, E, q⟩
          · split at hev
            · rename_i e1
              subst e1
              exact ⟨_, pe_idxL B hi hd' hl, ρ, s, ρ', H0, hev, E, q⟩
            · cases hev
        · cases hev
      · cases hev
    · cases hev
  · obtain ⟨ρ, s, ρ', H0, hev, E, q⟩ := q
    dsimp only at hev
    unfold hStepT at hev
    split at hev
    · exact ⟨_, pt_notE (ht _), ρ, s, ρ', H0, hev, E, q⟩
    · exact ⟨_, (pw_boolE ht _).pt, ρ, s, ρ', H0, hev, E, q⟩
    · exact ⟨_, pt_cmpD hu (hd _) (hd _), ρ, s, ρ', H0, hev, E, q⟩
    · split at hev
      · rename_i hpt
        exact ⟨_, pt_truE (hd _) (fun whole => plainTest_ok hpt _ _), ρ, s, ρ', H0, hev, E, q⟩
      · cases hev
theorem hEvs_ok (B : COkB C sc X) (hu : X.A.units + 64 < cLine) (hm : X.mg "isinstance" = none) (hI : IxOk X.K X.mg Dc hp.ix) (hc : CallR X (.builtin "isinstance") (rIsE X.K Dc TabC.ea)) :
    ∀ n, (∀ e, PE X e (tS (Cx.G X) fun ρ => (hEvs C hp n).e sc ρ e)) ∧ ∀ e, PT X e (tT (Cx.G X) fun ρ => (hEvs C hp n).t sc ρ e)
  | 0 => ⟨fun e => PE.of fun σ H Q ⟨ρ, s, ρ', H0, hev, _⟩ => (nomatch hev), fun e => PT.of fun σ H Q ⟨ρ, s, ρ', H0, hev, _⟩ => (nomatch hev)⟩
  | n + 1 => hStep_ok B hu hm hI hc (hEvs_ok B hu hm hI hc n).1 (hEvs_ok B hu hm hI hc n).2
def hStepS (C : Cf) (r : Evs) (sc : Scope) (ok : Nat → Bool) (f : Rho → Stmt → Option Fl) (ρ : Rho) : Stmt → Option Fl
  | .Assign [.Name x _] e _ => if notComp e = true then nameS C ok sc x (r.e sc ρ e) else none
  | .Expr (.Call (.Attribute (.Name x _) m apos) [e] [] cpos) _ => if m = "append" ∧ (apos.endLine == cpos.line) = true ∧ notStar e = true then appS C sc (fun ρ => r.d sc ρ e) x ρ else none
  | .If c a b _ => ifS (r.t sc ρ c) (runL f a) (runL f b)
  | .Return (some e) _ => retOf (r.e sc ρ e)
  | _ => none
def hExs (C : Cf) (r : Evs) (sc : Scope) (ok : Nat → Bool) : Nat → Rho → Stmt → Option Fl
  | 0 => fun _ _ => none
  | n + 1 => hStepS C r sc ok (hExs C r sc ok n)
theorem hStepS_ok (B : COkB C sc X) (hfn : ∀ x, X.fn x = true) {r : Evs} (he : ∀ e, PE X e (tS (Cx.G X) fun ρ => r.e sc ρ e)) (ht : ∀ e, PT X e (tT (Cx.G X) fun ρ => r.t sc ρ e)) {f : Rho → Stmt → Option Fl} (hf : ∀ s, PS X s (tF (Cx.G X) ok fun ρ => f ρ s)) :
    ∀ s, PS X s (tF (Cx.G X) ok fun ρ => hStepS C r sc ok f ρ s) := fun s => PS.of fun Dn σ H q => by
  have hd : ∀ e, PE X e (tD (Cx.G X) fun ρ => r.d sc ρ e) := fun e => tD_of (he e)
  obtain ⟨ρ, fl, H0, hev, E, p⟩ := q
  dsimp only at hev
  unfold hStepS at hev
  split at hev
  · split at hev
    · rename_i hn
      exact ⟨_, ps_nameF B hfn (he _) (sw_no hn _ _ _), ρ, fl, H0, hev, E, p⟩
    · cases hev
  · split at hev
    · rename_i h
      obtain ⟨rfl, h2, h3⟩ := h
      exact ⟨_, ps_appF B (hd _) h3 h2, ρ, fl, H0, hev, E, p⟩
    · cases hev
  · exact ⟨_, ps_ifF (ht _) (pss_run hf _) (pss_run hf _), ρ, fl, H0, hev, E, p⟩
  · exact ⟨_, ps_retF (he _), ρ, fl, H0, hev, E, p⟩
  · cases hev
theorem hExs_ok (B : COkB C sc X) (hfn : ∀ x, X.fn x = true) {r : Evs} (he : ∀ e, PE X e (tS (Cx.G X) fun ρ => r.e sc ρ e)) (ht : ∀ e, PT X e (tT (Cx.G X) fun ρ => r.t sc ρ e)) : ∀ n s, PS X s (tF (Cx.G X) ok fun ρ => hExs C r sc ok n ρ s)
  | 0, s => PS.none fun _ => rfl
  | n + 1, s => hStepS_ok B hfn he ht (hExs_ok B hfn he ht n) s
end
end Dv

set_option Elab.async false
set_option linter.all false
set_option maxRecDepth 100000
set_option maxHeartbeats 1000000
namespace Dv
open PySem PySem.Spec L2 RZ
open PyProof.Rows (envOfC)
variable [TabC]
/-! a def called from an except suite with the exception that the suite holds; a lambda handed to a def that tells repr of its answer, or what such a def tells of its exception -/
section
variable {P : Program} {w : World} {K : PySem.W.Frag} {mg : Str → Option Value} {base : Heap} {k : Nat} {f : Addr} {name qual : Str} {params : Arguments} {body : List Stmt} {scope : Scope} {dV kV doc pm cdv ct oc : Value} {an od : Option Addr} {osl : Array (Option Value)} {N ps : List Str}
/-- the call of a def while an exception is handled: its body is read in the very state -/
theorem call_hot (lk : K.lookup f = some ⟨oc, od, .func (PySem.W.fnOf name qual params body scope dV kV doc pm an cdv ct), osl⟩) (hcd : PySem.W.codeIn K cdv qual = true) (S : FnScope N ps scope) {A : Around} {outer : List Env} {s : Shared} {H : Hp} {args : Args} {us : List Value} {vs : List V} {Q : VK} {E : XK} {p : Addr × Obj}
    (hdp : A.depth < recursionLimit) (hpin : L2H.PinOk outer H s p) (e0 : Env0 P w K mg base A outer s H) (hb : BindsTo s (PySem.W.fnOf name qual params body scope dV kV doc pm an cdv ct) args (ps.zip us)) (r : Vals vs us) (hl : vs.length = ps.length)
    (hbody : ∃ t, PSs (L2H.cxH CX0 P w K mg base N qual scope f cdv A outer s H E p) body t ∧ t { nx := fun _ H' => Q .non H', rt := Q } (L2.start N vs) H) : codeAny (model P w) A (.call (.ref f) args) (CR CX0 outer P w H s Q E) s := by
  have old : ∀ b o, base.get? b = some o → s.heap.get? b = some o := fun b o e => (e0.bs b o e).1
  have KX : K.In s.heap := e0.mod.kin.keeps old
  obtain ⟨t, ht, hq⟩ := hbody
  refine codeAny_call_function hdp (KX _ _ lk) rfl S.co S.gen rfl (PySem.W.codeRec_of KX hcd) (hb _ _ _ _ ?_)
  refine wpAny_newFunctionEnv_cells S.kind (fun y hy => ?_) fun env he s1 x => ?_
  · obtain ⟨n, v⟩ := y
    rcases S.par n (List.of_mem_zip hy).1 with q | q
    · exact Or.inl q
    · exact Or.inr ⟨q, PySem.W.cellsFrom_some _ _ _ (.inl q)⟩
  subst he
  refine ⟨(e0.mod.nolimit.keeps old).keeps x.toInCall.keep, codeAny_func ?_⟩
  refine wpAny_mono (ht.run [] s1 (L2.start N vs) H _ (L2H.inv_startH S hpin e0 hl r x) hq) (fun fl s' hs => ?_) fun e s' hs => hs
  cases fl with
  | next =>
    obtain ⟨σ', H', J, q⟩ := hs
    exact (⟨V.non, H', J.os, J.bare, J.base, J.hok, rfl, q⟩ : CE outer P w H s Q Value.none s')
  | ret u =>
    obtain ⟨v, σ', H', J, rv, q⟩ := hs
    exact (⟨v, H', J.os, J.bare, J.base, J.hok, rv, q⟩ : CE outer P w H s Q u s')
  | brk => obtain ⟨_, _, _, q⟩ := hs; exact q.elim
  | cont => obtain ⟨_, _, _, q⟩ := hs; exact q.elim
end
/-- isinstance(e, c), e an exception that the context holds -/
theorem call_isP {Y : L2.Cx} {a D : Addr} {oe : Obj} (C : ExcC Y.K D) (hp : (a, oe) ∈ Y.pn) (hz : Zc (.ref D) none oe) (hf : ∃ vs, oe.data = .fields vs) : CallR Y (.builtin "isinstance") (rIsE Y.K D a) := by
  intro pins s σ H xs us Q I r q
  obtain ⟨c, cv, b, rfl, hcv, e, q⟩ := q
  obtain ⟨u1, u2, rfl, r1, r2⟩ := vals2 r
  cases r1
  obtain rfl := hcv _ r2
  obtain ⟨vs, hd⟩ := hf
  have at_ : s.heap.get? a = some oe := (I.pin (a, oe) (List.mem_append_left _ hp)).1
  have J : PySem.W.InstAt s.heap a oe D none := by
    cases oe with
    | mk oc od oda osl =>
      obtain ⟨z1, z2⟩ := hz
      simp only at z1 z2 hd
      subst z1 z2 hd
      exact ⟨at_, rfl, rfl, trivial⟩
  exact PySem.W.kia_one (PySem.W.handS_kitx_exc C.hg C.hk C.hs C.hd C.ha C.hn C.ht C.hm) I.kIn J e (fun z => nomatch z) fun tk => ⟨.bl b, H, I.tok tk, rfl, q⟩
/-- the def that makes a word of an exception, as the module has it -/
structure WordDef (K : PySem.W.Frag) (mg : Str → Option Value) (x y : Str) (st : Stmt) (N : List Str) : Prop where
  ex : ∃ (g : Addr) (oc : Value) (od : Option Addr) (osl : Array (Option Value)) (kV doc pm : Value) (an : Option Addr) (cdv ct : Value),
    K.lookup g = some ⟨oc, od, .func (PySem.W.fnOf x x (defArgs st) (defBody st) (defScope st) .none kV doc pm an cdv ct), osl⟩ ∧ PySem.W.codeIn K cdv x = true ∧ PySem.W.keepIn K (.ref g) = true ∧ mg x = some (.ref g) ∧
      L2.Binds K (PySem.W.fnOf x x (defArgs st) (defBody st) (defScope st) .none kV doc pm an cdv ct) [y] []
  S : FnScope N [y] (defScope st)
  isi : mg "isinstance" = none
/-- the word that it makes of an exception of the class Dc, wherever that stands -/
def excD : D := .dict [(.bool true, .none)]
def cfW (N : List Str) : Cf := ⟨N, fun _ => none, fun _ => none, ({ b := false } : Xt)⟩
structure WordOf (K : PySem.W.Frag) (mg : Str → Option Value) (st : Stmt) (N : List Str) (Dc : Addr) (wd : Str) : Prop where
  C : ExcC K Dc
  ix : ∃ ix, IxOk K mg Dc ix ∧ ∃ ρ', retF (runL (hExs (cfW N) (hEvs (cfW N) ⟨ix⟩ 14) (defScope st) (fun _ => true) 14) (defBody st) (some (.im (excD)) :: List.replicate (N.length - 1) none)) = some (.im (.str wd), ρ')
section
variable {Z : L2.Cx} {pos p p2 : Pos}
theorem pe_word {x y z : Str} {st : Stmt} {N : List Str} (Wd : WordDef Z.K Z.mg x y st N) {Dc a : Addr} {wd : Str} (Wo : WordOf Z.K Z.mg st N Dc wd) {oe : Obj} (hp : (a, oe) ∈ Z.pn) (hz : Zc (.ref Dc) none oe) (hf : ∃ vs, oe.data = .fields vs)
    (hs : Z.stack = Z.env :: Z.outer) (hfr : Z.env.frame = some Z.env.locals) (hdp : Z.A.depth < recursionLimit) (hun : Z.A.units + 100 < cLine) (hg : Gl Z x) {i : Nat} (hi : Z.N[i]? = some z) (hv : Vis Z.env.scope z)
    (hdb : (x == ("__debug__" : Str)) = false := by decide) (hd : (z == ("__debug__" : Str)) = false := by decide) (hcd : (z == ("__classdict__" : Str)) = false := by decide) :
    PE Z (.Call (.Name x p) [.Name z p2] [] pos) (fun σ H Q => σ[i]? = some (some (.ref a)) ∧ ∃ H0, TbOk H0 H ∧ Ex H0 H ∧ ∀ H' H0', TrF none H0 H H0' H' → Q (.str wd) H') := by
  refine ⟨fun pins s σ H Q I h => ?_⟩
  obtain ⟨hσ, H0, htb, hex, hq⟩ := h
  obtain ⟨g, oc, od, osl, kV, doc, pm, an, cdv, ct, lk, hcg, hk, hm, hb⟩ := Wd.ex
  obtain ⟨ix, hI, hrun⟩ := Wo.ix
  refine wpAny_Call_Name_kw (ld_glob I hg hm ?_ hdb)
  have ha : PA Z [.Name z p2] (tCons (tVar i) tNil) := pa_cons (pe_var hi hv hd hcd) pa_nil
  refine PySem.W.callWith_K (h₀ := Z.base) I.ok.mod.kin hk (thn (ha.run pos pins s σ H (fun vs H1 => vs = [V.ref a] ∧ H1 = H) I ⟨_, hσ, rfl, rfl⟩) fun us s1 ⟨vs, H1, I1, r, ev, eH⟩ => ⟨I1.kIn, ?_⟩) (by rfl) (by rfl)
  subst ev
  subst eH
  obtain ⟨u, rfl, ru⟩ := r.one
  cases ru
  obtain ⟨g1, g2, g3, g4, g5⟩ := I1.pin (a, oe) (List.mem_append_left _ hp)
  have nofs : a ∉ frs Z.stack := fun hm' => by
    rw [hs] at hm'
    obtain ⟨e, he, q⟩ := List.mem_filterMap.mp hm'
    rcases List.mem_cons.mp he with z1 | z1
    · subst z1
      rw [hfr] at q
      cases q
      exact g3 rfl
    · exact g4 (List.mem_filterMap.mpr ⟨e, z1, q⟩)
  have hbb := hb s1 [.ref a] I1.kIn rfl
  rw [List.append_nil] at hbb
  have rc := call_hot (P := Z.prog) (w := Z.w) (K := Z.K) (mg := Z.mg) (base := Z.base) (A := Z.A) (outer := Z.stack) (s := s1) (H := H1) (E := E0) (Q := Q) (p := (a, oe)) (vs := [.ref a]) lk hcg Wd.S hdp ⟨g1, g2, nofs, g5⟩ I1.env0 hbb (.cons rfl .nil) rfl ?_
  · refine wpAny_call (codeAny_mono rc fun r s2 hq => ?_)
    cases r with
    | error e => exact (show False from hq).elim
    | ok fl =>
      cases fl with
      | ret u => exact I1.after hq
      | next => exact False.elim hq
      | brk => exact False.elim hq
      | cont => exact False.elim hq
  · have mkF : ∀ {H' H0' : Hp}, Ex H0 H0' → Ex H0' H' → TbOk H0' H' → (∀ b o, H1 b = some o → (∀ ps, o ≠ .tbl ps) → H0 b = none → some b ≠ none → H' b = some o ∧ H0' b = none) → (∀ b, Nn H' b → Nn H1 b) → TrF none H0 H1 H0' H' := fun h1 h2 h3 h4 h5 => ⟨h1, h2, h3, h4, h5⟩
    let I0 : TabC := ⟨TabC.T, a⟩
    have B : @COkB I0 (cfW N) (defScope st) (L2H.cxH CX0 Z.prog Z.w Z.K Z.mg Z.base N x (defScope st) g cdv Z.A Z.stack s1 H1 E0 (a, oe)) := ⟨rfl, Wd.S.nd, rfl, fun _ _ z => nomatch z⟩
    have hu : (L2H.cxH CX0 Z.prog Z.w Z.K Z.mg Z.base N x (defScope st) g cdv Z.A Z.stack s1 H1 E0 (a, oe)).A.units + 64 < cLine := by
      show Z.A.units + 3 + 64 < cLine
      omega
    have hc := call_isP (Y := L2H.cxH CX0 Z.prog Z.w Z.K Z.mg Z.base N x (defScope st) g cdv Z.A Z.stack s1 H1 E0 (a, oe)) Wo.C (List.mem_singleton.mpr rfl) hz hf
    obtain ⟨he, ht⟩ := @hEvs_ok I0 _ _ _ ⟨ix⟩ _ B hu Wd.isi hI hc 14
    have hx := hExs_ok (ok := fun _ => true) B (fun _ => rfl) he ht 14
    refine ⟨_, pss_run hx (defBody st), ?_⟩
    obtain ⟨ρ', hr⟩ := hrun
    have rp : Rep (Z.K, Z.mg) H0 (excD) (.ref a) := by
      simp only [excD, Rep]
      rfl
    have ra : RArgs (Z.K, Z.mg) H0 [.im (excD)] [.ref a] := ⟨_, _, rfl, rp, rfl⟩
    have hN : 1 ≤ N.length := by
      have := congrArg List.length Wd.S.pre
      rw [List.length_take] at this
      simp at this
      omega
    have E1 := env_plain (N := N) htb hex ra hN
    have hr' : retF (runL (hExs (cfW N) (hEvs (cfW N) ⟨ix⟩ 14) (defScope st) (fun _ => true) 14) (defBody st) ([Sl.im (excD)].map some ++ List.replicate (N.length - [Sl.im (excD)].length) none)) = some (.im (.str wd), ρ') := hr
    cases hfl : runL (hExs (cfW N) (hEvs (cfW N) ⟨ix⟩ 14) (defScope st) (fun _ => true) 14) (defBody st) ([Sl.im (excD)].map some ++ List.replicate (N.length - [Sl.im (excD)].length) none) with
    | none => rw [hfl] at hr'; cases hr'
    | some fl =>
      rw [hfl] at hr'
      refine ⟨_, fl, H0, hfl, E1, ?_⟩
      cases fl with
      | nx ρ1 => cases hr'
      | bk ρ1 => cases hr'
      | ct ρ1 => cases hr'
      | rt s1' ρ1 =>
        cases hr'
        intro v σ' H' H0' T' E' k' r'
        have e : v = .str wd := Rep.str (G := (Z.K, Z.mg)) (H := H0') r'
        subst e
        exact hq H' H0' (mkF T'.ex E'.ex E'.tb (fun b o e1 nt e2 _ => T'.fr' b o e1 nt e2 (fun z => own_plain ra z)) T'.kp)
end
/-- what the def that got a lambda makes of it: repr of the answer, or the word of the exception -/
def TTsaid (K : PySem.W.Frag) (mg : Str → Option Value) (CE : Addr) (st : Stmt) (N : List Str) : (XK → Hp → VK → Prop) → Hp → VK → Prop := fun tl H Q =>
  ∃ Ech : XK, tl Ech H (fun v H1 => rRep K [v] H1 Q) ∧ ∀ cls d H', Ech cls d H' → ∃ Dc wd, cls = .ref Dc ∧ d = none ∧ WordOf K mg st N Dc wd ∧ PySem.W.exmOne K (.ref Dc) (.ref CE) = some true ∧
    ∃ H0', TbOk H0' H' ∧ Ex H0' H' ∧ ∀ H2 H02, TrF none H0' H' H02 H2 → Q (.str wd) H2
theorem said_gives {X : L2.Cx} {k : Nat} {Ng N : List Str} {q x a e n wx y : Str} {sg : Scope} {g CE : Addr} {cdg : Value} {st : Stmt} {p1 p2 p3 p4 p5 p6 p7 p8 p9 p10 p11 p12 : Pos} (hr : Room (k + 2) X.A) (hgd : X.A.guards = some []) (hrp : X.mg "repr" = none)
    (hN : Ng.Nodup) (h0 : ∀ f : Addr, (L2.start Ng [V.ref f])[0]? = some (some (V.ref f))) (hn : Ng[1]? = some n) (hlen : ∀ f : Addr, 1 < (L2.start Ng [V.ref f]).length) (hln : sg.names.lookup n = some .local) (hge : globB sg e = true) (hde : plainName e = true) (hme : X.mg e = some (.ref CE)) (hgr : globB sg "repr" = true) (hgw : globB sg wx = true)
    (Wd : WordDef X.K X.mg wx y st N) (hwd : (wx == ("__debug__" : Str)) = false) (hnd : (n == ("__debug__" : Str)) = false) (hnc : (n == ("__classdict__" : Str)) = false) :
    LamX.GivesTo X Ng x sg g cdg [.Try [.Return (some (.Call (.Name "repr" p1) [.Call (.Name a p2) [] [] p3] [] p4)) p5] [.ExceptHandler (some (.Name e p6)) (some n) [.Return (some (.Call (.Name wx p7) [.Name n p8] [] p9)) p10] p11] [] [] p12] a q (TTsaid X.K X.mg CE st N) := by
  intro f c' s H Q tl act hc h
  have glY : ∀ z, globB sg z = true → Gl (cxOf C8.CX0 X.prog X.w X.K X.mg X.base Ng x sg g cdg X.A X.stack s H C8.E0).nox z := fun z hz => by
    unfold Gl Env.kindOf
    exact of_decide_eq_true hz
  simp only [plainName, Bool.and_eq_true, Bool.not_eq_true'] at hde
  have tryP := ps_try_as (X := (cxOf C8.CX0 X.prog X.w X.K X.mg X.base Ng x sg g cdg X.A X.stack s H C8.E0).nox) (c := .ref CE) (i := 1) (n := n) (x := e) (np := p6) (pos := p12) (pos' := p11)
    (body := [.Return (some (.Call (.Name "repr" p1) [.Call (.Name a p2) [] [] p3] [] p4)) p5]) (b₀ := .Return (some (.Call (.Name wx p7) [.Name n p8] [] p9)) p10) (suite := [])
    (tb := fun W D σ H => ∃ Ech : XK, (∀ cls d σ' H', Ech cls d H' → W cls d σ' H') ∧ σ[0]? = some (some (.ref f)) ∧ H c' = some (LamX.CodeO c' q) ∧ tl Ech H fun v H1 => rRep X.K [v] H1 D.rt)
    (ts := fun a cls d D σ H => (1 < σ.length → σ[1]? = some (some (.ref a))) ∧ d = none ∧ ∃ Dc wd, cls = .ref Dc ∧ WordOf X.K X.mg st N Dc wd ∧ ∃ H0, TbOk H0 H ∧ Ex H0 H ∧ ∀ H' H0', TrF none H0 H H0' H' → D.rt (.str wd) H')
    rfl rfl hN hn hln ⟨glY e hge, hde.1, .inl hme⟩ LamX.takes0 (fun W pn xe tk _ => ?_) (fun a oe cls d pn hz hf => ?_)
  · refine ⟨_, pss_one tryP, ?_⟩
    obtain ⟨Ech, ht, hE⟩ := h
    refine ⟨Ech, fun cls d σ' H' hx => ?_, h0 f, hc, ht⟩
    obtain ⟨Dc, wd, rfl, rfl, Wo, hex, H0', t1, t2, t3⟩ := hE cls d H' hx
    exact ⟨true, hex, fun _ a _ => ⟨fun hl => List.getElem?_set_self (by simpa using hl), rfl, Dc, wd, rfl, Wo, H0', t1, t2, fun H2 H02 T => t3 H2 H02 T⟩, fun z => nomatch z⟩
  · refine ⟨fun pins s' σ H' D I h' => ?_⟩
    obtain ⟨Ech, hW, h1, h2, h3⟩ := h'
    have hp := act W pn xe Ech p2 p3 tk hW
    have hcr := cr_repr (X := (cxOf C8.CX0 X.prog X.w X.K X.mg X.base Ng x sg g cdg X.A X.stack s H C8.E0).tr pn xe) hgd (by have := hr.un; show X.A.units + 3 + 200 < cLine; omega)
    have hcall := pe_callB (p := p1) (pos := p4) hcr (show Gl ((cxOf C8.CX0 X.prog X.w X.K X.mg X.base Ng x sg g cdg X.A X.stack s H C8.E0).tr pn xe) "repr" from glY _ hgr) hrp (by decide +kernel) (pa_cons hp pa_nil) (by decide) (by decide)
    exact (pss_one (ps_ret (pos := p5) hcall)).run pins s' σ H' D I ⟨h1, h2, h3⟩
  · refine ⟨fun pins s' σ H' D I h' => ?_⟩
    obtain ⟨h1, rfl, Dc, wd, rfl, Wo, H0', t1, t2, t3⟩ := h'
    have hw := pe_word (Z := (cxOf C8.CX0 X.prog X.w X.K X.mg X.base Ng x sg g cdg X.A X.stack s H C8.E0).nox.suite a ((a, oe) :: pn)) (p := p7) (p2 := p8) (pos := p9) Wd Wo List.mem_cons_self hz hf rfl rfl
      (by have := hr.dp; show X.A.depth + 1 < recursionLimit; omega) (by have := hr.un; show X.A.units + 3 + 100 < cLine; omega) (glY _ hgw) hn (.inl hln) hwd hnd hnc
    refine (pss_one (ps_ret (pos := p10) hw)).run pins s' σ H' D I ⟨h1 ?_, H0', t1, t2, t3⟩
    have e := I.len
    rw [e]
    exact (List.getElem?_eq_some_iff.mp hn).1
end Dv

set_option Elab.async false
set_option linter.all false
set_option maxRecDepth 100000
set_option maxHeartbeats 1000000
namespace Dv
open PySem PySem.Spec L2 RZ
open PyProof.Rows (envOfC)
variable [TabC]
/-! x(lambda: f(..)), x the def that tells repr of the answer or the word of the exception -/
/-- a lambda is made: only tables grow -/
theorem REnv.tables {G : Ctx} {ρ : Rho} {σ : St} {H0 H H1 : Hp} (E : REnv G ρ σ H0 H) (eN : LamX.ExtN H H1) (T1 : LamX.Tabs TabC.T H1) : REnv G ρ σ H0 H1 ∧ Tr ρ σ H0 H ρ σ H0 H1 := by
  have ex : Ex H0 H1 := fun a o h => eN a o (E.ex a o h) fun ps z => E.tb.2 a ps (by rw [h, z])
  have kp : ∀ a, Nn H1 a → Nn H a := fun a h o e => by
    by_cases ht : ∃ ps, o = .tbl ps
    · exact ht
    · exact h o (eN a o e fun ps z => ht ⟨ps, z⟩)
  refine ⟨⟨⟨T1, E.tb.2⟩, ex, E.len, E.im, E.fn, E.fz, E.tt, fun i xs e => ?_, E.ap⟩, ⟨Ex.refl _, fun a o h nt n _ => ⟨eN a o h nt, n⟩, fun a h => .inl h, kp⟩⟩
  obtain ⟨a, vs, h1, h2, h3, h4⟩ := E.ow i xs e
  exact ⟨a, vs, h1, eN a _ h2 (fun ps z => nomatch z), h3, h4⟩
/-- a call that raises: the arguments are read, then the state behind them is left as it is -/
def rzC2 (r : Evs) (RF : Str → Option RzF) (sc : Scope) (f : Str) (es : List Expr) (ρ : Rho) : Option (Str × Rho) :=
  if globB sc f = true ∧ plainName f = true ∧ es.all notStar = true then match RF f with
    | some g => match evDs (r.d sc) es ρ with
      | some (ds, ρ1) => if ds.length = g.ar then (g.run (ds.map .im)).map fun c => (c, ρ1) else none
      | none => none
    | none => none
  else none
section
variable {X : L2.Cx} {C : Cf} {sc : Scope} {k : Nat} {W : WX}
theorem pe_rz2 (S : COk C sc k X) (tk : Takes X W) {r : Evs} (R : Sound C k r) {RF : Str → Option RzF} (hRF : ∀ f g, RF f = some g → FRz X.prog X.w X.K X.mg X.base k f g) {f : Str} {e : Expr} {es : List Expr} {p pos : Pos}
    {σ : St} {H H0 : Hp} {Q : VK} {ρ ρ1 : Rho} {cn : Str} (hf : rzC2 r RF sc f (e :: es) ρ = some (cn, ρ1)) (E : REnv (Cx.G X) ρ σ H0 H) (q : ∀ H' H0' C, Tr ρ σ H0 H ρ1 σ H0' H' → REnv (Cx.G X) ρ1 σ H0' H' → X.mg cn = some (.ref C) → W (.ref C) none σ H') :
    ∃ t, PE X (.Call (.Name f p) (e :: es) [] pos) t ∧ t σ H Q := by
  unfold rzC2 at hf
  split at hf
  · rename_i hc
    obtain ⟨hg, hd, hs⟩ := hc
    split at hf
    · rename_i g hg'
      obtain ⟨fa, fd, ps, hm, hk, F, B⟩ := (hRF f g hg').ex
      simp only [plainName, Bool.and_eq_true, Bool.not_eq_true'] at hd
      simp only [List.all_cons, Bool.and_eq_true] at hs
      split at hf
      · rename_i ds ρ2 h1
        split at hf
        · rename_i hl
          cases hr : g.run (ds.map .im) with
          | none => rw [hr] at hf; cases hf
          | some c =>
            rw [hr] at hf
            cases hf
            refine ⟨_, pe_callS (E := WE W) F S.room (gl_of S.toCOkB hg) hm hk B (passAt tk) (pa_of (fun e => R.d S e) (e :: es)) hd.1 (star_of hs.1) (star_plain hs.2), ?_⟩
            refine ⟨ρ, ds, ρ1, H0, h1, E, fun vs H1 H01 T1 E1 r1 => ?_⟩
            refine ⟨by rw [← r1.length, hl], H01, E1.tb, E1.ex, ds.map .im, cn, rargs_im r1, hr, fun H' H0' C T e => ?_⟩
            obtain ⟨t1, t2, _⟩ := after_none (s := .im .none) (v := .non) E1 T (rep_non (G := Cx.G X) (H := H0'))
            exact q H' H0' C (T1.trans t1) t2 e
        · cases hf
      · cases hf
    · cases hf
  · cases hf
end
/-- the def that is handed lambdas, as a caller sees it -/
structure SaidOk (X : L2.Cx) (k : Nat) (x : Str) (CE : Addr) (st : Stmt) (N : List Str) : Prop where
  run : ∀ (params : Arguments) (body : Expr) (scope : Scope) (p lpos pos : Pos) (t : XK → TE), LamX.LamS X.env.scope scope → defaultsOf params X.env = ([], []) →
    (∀ (q : Str) (cl : List (Str × Addr)) (pm cv ctv : Value), bindArgs (PySem.W.kla_fn "<lambda>" q params body scope cl pm cv ctv) ⟨[], []⟩ = pure []) →
    (∀ (A : Around) (outer : List Env) (s : Shared) (H : Hp) (E : XK) (f c' : Addr), Room k (A.deeper (LamX.lamEnv X scope s.heap.objs.size f c')) → PE (LamX.lamCx X A outer s H E scope f c') body (t E)) →
    PE X (.Call (.Name x p) [.Lambda params body scope lpos] [] pos) (LamX.tLam TabC.T (TTsaid X.K X.mg CE st N) t)
/-- what x(lambda: f(..)) tells -/
def saidE (C : Cf) (RF : Str → Option RzF) (wd : Str → Option Str) (scope : Scope) (body : Expr) (f : Str) (es : List Expr) (ρ : Rho) : Option (Sl × Rho) := match rzC2 (evs C 14) RF scope f es ρ with
  | some (cn, ρ1) => (wd cn).map fun t => (.im (.str t), ρ1)
  | none => match (evs C 14).d scope ρ body with
    | some (d, ρ1) => if showB d = true then some (.im (.str d.shown), ρ1) else none
    | none => none
theorem pe_said {X : L2.Cx} {k : Nat} {x : Str} {CE : Addr} {st : Stmt} {N N0 : List Str} {gl : Str → Option Sl} {fns : Str → Option Fn} (hL : SaidOk X k x CE st N) (M : MOk gl fns X.prog X.w X.K X.mg X.base k) (hN : X.N = N0) (nd : N0.Nodup)
    {RF : Str → Option RzF} (hRF : ∀ f g, RF f = some g → FRz X.prog X.w X.K X.mg X.base k f g) {wd : Str → Option Str} (hwd : ∀ cn t, wd cn = some t → ∃ Dc, X.mg cn = some (.ref Dc) ∧ WordOf X.K X.mg st N Dc t ∧ PySem.W.exmOne X.K (.ref Dc) (.ref CE) = some true)
    {params : Arguments} {f : Str} {e : Expr} {es : List Expr} {scope : Scope} {p pf pc lpos pos : Pos} (hLS : LamX.LamS X.env.scope scope) (hdef : defaultsOf params X.env = ([], []))
    (hbind : ∀ (q : Str) (cl : List (Str × Addr)) (pm cv ctv : Value), bindArgs (PySem.W.kla_fn "<lambda>" q params (.Call (.Name f pf) (e :: es) [] pc) scope cl pm cv ctv) ⟨[], []⟩ = pure []) :
    PE X (.Call (.Name x p) [.Lambda params (.Call (.Name f pf) (e :: es) [] pc) scope lpos] [] pos) (tS (Cx.G X) (saidE ⟨N0, gl, fns, ({ b := false } : Xt)⟩ RF wd scope (.Call (.Name f pf) (e :: es) [] pc) f (e :: es))) := PE.of fun σ H Q q => by
  obtain ⟨ρ, s, ρ', H0, hev, E, q⟩ := q
  have hZ : ∀ (A : Around) (outer : List Env) (s : Shared) (H : Hp) (E : XK) (f c' : Addr), Room k (A.deeper (LamX.lamEnv X scope s.heap.objs.size f c')) → COk ⟨N0, gl, fns, ({ b := false } : Xt)⟩ scope k (LamX.lamCx X A outer s H E scope f c') := fun A outer s H E f c' hr =>
    ⟨⟨hN, nd, rfl, M.gl⟩, (fun _ z => nomatch z), (fun z => nomatch z), rfl, hr, fun x fn h => (by obtain ⟨f, fd, ps, a, b, c, d⟩ := (M.fns x fn h).ex; exact ⟨f, fd, ps, a, b, .of c hr, d⟩), M.blt, M.isi, M.tys⟩
  unfold saidE at hev
  split at hev
  · rename_i cn ρ1 hz
    cases hw : wd cn with
    | none => rw [hw] at hev; cases hev
    | some t =>
      rw [hw] at hev
      cases hev
      obtain ⟨Dc, hm, Wo, hex⟩ := hwd cn t hw
      refine ⟨_, hL.run params _ scope p lpos pos (fun Ech σ H Q => ∃ H0, REnv (Cx.G X) ρ σ H0 H ∧ ∀ H' H0' C, Tr ρ σ H0 H ρ' σ H0' H' → REnv (Cx.G X) ρ' σ H0' H' → X.mg cn = some (.ref C) → Ech (.ref C) none H') hLS hdef hbind (fun A outer s H Ech f0 c' hr => PE.of fun σ H Q q => ?_), E.tb.1, fun H1 eN T1 => ?_⟩
      · obtain ⟨H0, E, q⟩ := q
        exact pe_rz2 (W := fun cls d _ H' => Ech cls d H') (hZ A outer s _ Ech f0 c' hr) (takes_of rfl rfl rfl rfl) (evs_ok 14) hRF hz E q
      · obtain ⟨E1, T1'⟩ := E.tables eN T1
        refine ⟨fun cls d H' => ∃ C H0', cls = .ref C ∧ d = none ∧ X.mg cn = some (.ref C) ∧ Tr ρ σ H0 H1 ρ' σ H0' H' ∧ REnv (Cx.G X) ρ' σ H0' H', ⟨H0, E1, fun H' H0' C T' E' hC => ⟨C, H0', rfl, rfl, hC, T', E'⟩⟩, fun cls d H' hx => ?_⟩
        obtain ⟨C, H0', rfl, rfl, hC, T', E'⟩ := hx
        rw [hm] at hC
        cases hC
        refine ⟨Dc, t, rfl, rfl, Wo, hex, H0', E'.tb, E'.ex, fun H2 H02 TF => ?_⟩
        obtain ⟨t1, t2, _⟩ := after_none (s := .im .none) (v := .non) E' TF (rep_non (G := Cx.G X) (H := H02))
        exact q _ H2 H02 ((T1'.trans T').trans t1) t2 (rsl_im (rep_str _))
  · split at hev
    · rename_i d ρ1 hd
      split at hev
      · rename_i hs
        cases hev
        refine ⟨_, hL.run params _ scope p lpos pos (fun _ => tD (Cx.G X) fun ρ => (evs ⟨N0, gl, fns, ({ b := false } : Xt)⟩ 14).d scope ρ (.Call (.Name f pf) (e :: es) [] pc)) hLS hdef hbind (fun A outer s H Ech f0 c' hr => (evs_ok 14).d (hZ A outer s H Ech f0 c' hr) _), E.tb.1, fun H1 eN T1 => ?_⟩
        obtain ⟨E1, T1'⟩ := E.tables eN T1
        refine ⟨fun _ _ _ => False, ⟨ρ, d, ρ', H0, hd, E1, fun v H' H0' T' E' r => ⟨v, d, _, H0', rfl, E'.ex, r, hs, q _ H' H0' (T1'.trans T') E' (rsl_im (rep_str _))⟩⟩, fun _ _ _ z => z.elim⟩
      · cases hev
    · cases hev
end Dv

set_option Elab.async false
set_option linter.all false
set_option maxRecDepth 100000
set_option maxHeartbeats 1000000
namespace Dv
open PySem PySem.Spec L2 RZ
open PyProof.Rows (envOfC)
variable [TabC]
/-- the def that is handed lambdas, from the module's facts -/
theorem saidOk_of {X : L2.Cx} {k : Nat} {Ng N : List Str} {x a e n wx y : Str} {g CE c P : Addr} {st stw : Stmt} {p1 p2 p3 p4 p5 p6 p7 p8 p9 p10 p11 p12 : Pos}
    (hbg : defBody st = [.Try [.Return (some (.Call (.Name "repr" p1) [.Call (.Name a p2) [] [] p3] [] p4)) p5] [.ExceptHandler (some (.Name e p6)) (some n) [.Return (some (.Call (.Name wx p7) [.Name n p8] [] p9)) p10] p11] [] [] p12])
    (D : DefK X.K x st g) (hb : ∀ (kV doc pm : Value) (an : Option Addr) (cdv ct : Value) (us : List Value), us.length = [a].length → bindArgs (PySem.W.fnOf x x (defArgs st) (defBody st) (defScope st) .none kV doc pm an cdv ct) ⟨us, []⟩ = pure ([a].zip us))
    (hm : X.mg x = some (.ref g)) (hg : Gl X x) (Sg : FnScope Ng [a] (defScope st)) (hNg : Ng[0]? = some a) (hva : Vis (defScope st) a)
    (hr : Room (k + 2) X.A) (hgd : X.A.guards = some []) (hrp : X.mg "repr" = none) (hn : Ng[1]? = some n) (hln : (defScope st).names.lookup n = some .local) (hge : globB (defScope st) e = true) (hde : plainName e = true) (hme : X.mg e = some (.ref CE))
    (hgr : globB (defScope st) "repr" = true) (hgw : globB (defScope st) wx = true) (Wd : WordDef X.K X.mg wx y stw N) (hwd : (wx == ("__debug__" : Str)) = false) (hnd : (n == ("__debug__" : Str)) = false) (hnc : (n == ("__classdict__" : Str)) = false)
    (TB : LamX.TabB X.base X.mg c P) (hcode : X.env.code = .ref c) (hmT : (P, X.env.qual ++ "<lambda>") ∈ TabC.T) (hu : ∀ p ∈ TabC.T, p.1 = P → p.2 = X.env.qual ++ "<lambda>")
    (hxd : (x == ("__debug__" : Str)) = false) (had : (a == ("__debug__" : Str)) = false) (hac : (a == ("__classdict__" : Str)) = false) : SaidOk X k x CE stw N := by
  obtain ⟨oc, od, osl, kV, doc, pm, an, cdv, ct, lk, hcg, hk⟩ := D.ex
  have F := fun_mk lk hcg hk
  have hB := F.binds hb
  have len1 : 1 < Ng.length := (List.getElem?_eq_some_iff.mp hn).1
  have h0 : ∀ f : Addr, (L2.start Ng [V.ref f])[0]? = some (some (V.ref f)) := fun f => start_get (by rfl)
  have hlen : ∀ f : Addr, 1 < (L2.start Ng [V.ref f]).length := fun f => by
    unfold L2.start
    rw [List.length_append, List.length_map, List.length_replicate]
    simp
    omega
  have G : LamX.GivesTo X Ng x (defScope st) g cdv (defBody st) a (X.env.qual ++ "<lambda>") (TTsaid X.K X.mg CE stw N) := by
    rw [hbg]
    exact said_gives (k := k) hr hgd hrp Sg.nd h0 hn hlen hln hge hde hme hgr hgw Wd hwd hnd hnc
  exact ⟨fun params body scope p lpos pos t L hdef hbind hbody => LamX.pe_lamcall (T := TabC.T) hg hm hk lk hcg hB Sg hNg hva G TB hcode hmT hu hr L hdef hbind hbody hxd had hac⟩
end Dv

set_option Elab.async false
set_option linter.all false
set_option maxRecDepth 100000
set_option maxHeartbeats 1000000
namespace Dv
open PySem PySem.Spec L2 RZ
variable [TabC]
/-! {} and {i: j} of whole numbers, as things of which only the kind is known -/
def dictE : Expr → Option D
  | .Dict [] [] _ => some (.dict [])
  | .Dict [some (.Constant (.int i) _ _)] [.Constant (.int j) _ _] _ => some (.dict [(.int i, .int j)])
  | _ => none
theorem upd_two {H : Hp} {p : Addr} {o o' : HO} : upd (upd H p o) p o' = upd H p o' := by
  funext b
  by_cases h : b = p
  · subst h; rw [upd_same, upd_same]
  · rw [upd_ne h, upd_ne h, upd_ne h]
theorem rep_dict0 {G : Ctx} {H : Hp} {p : Addr} (h : H p = some (.dK [])) : Rep G H (.dict []) (.ref p) := by
  simp only [Rep]
  exact ⟨p, rfl, h⟩
theorem rep_dict1 {G : Ctx} {H : Hp} {p : Addr} {i j : Int} (h : H p = some (.dK [(.inl i, .int j)])) : Rep G H (.dict [(.int i, .int j)]) (.ref p) := by
  simp only [Rep]
  exact ⟨p, rfl, h⟩
theorem pe_dict {X : L2.Cx} {e : Expr} {d : D} (h : dictE e = some d) : PE X e (tS (Cx.G X) fun ρ => some (.im d, ρ)) := PE.of fun σ H Q q => by
  obtain ⟨ρ, s, ρ', H0, hev, E, q⟩ := q
  cases hev
  unfold dictE at h
  split at h
  · cases h
    refine ⟨_, pe_dnewK, fun p hp => ?_⟩
    exact q _ _ _ (Tr.newI hp (E.ex.back hp)) (E.newI hp) (rsl_im (rep_dict0 upd_same))
  · rename_i i j pi k l pk pos
    cases h
    refine ⟨_, pe_disp (pps_cons pe_int pe_int pps_nil) rfl rfl (by simp) (by simp), fun p hp => ?_⟩
    show (upd H p (.dK [])) p = some (.dK []) ∧ _
    refine ⟨upd_same, [(.inl i, .int k)], rfl, by simp, ?_⟩
    rw [upd_two]
    exact q _ _ _ (Tr.newI hp (E.ex.back hp)) (E.newI hp) (rsl_im (rep_dict1 upd_same))
  · cases h
end Dv

set_option Elab.async false
set_option linter.all false
set_option maxRecDepth 100000
set_option maxHeartbeats 1000000
namespace Dv
open PySem PySem.Spec L2 RZ
open PyProof.Rows (envOfC)
variable [TabC]
/-! defs whose text has displays of dicts and powers of written numbers -/
def constX : Expr → Option D
  | .BinOp (.Constant (.int i) _ _) .Pow (.Constant (.int j) _ _) _ => if 0 ≤ j ∧ j ≤ 1000 ∧ i.natAbs < 2 ^ 64 then some (.int (i ^ j.toNat)) else none
  | e => dictE e
theorem pe_constX {X : L2.Cx} {e : Expr} {d : D} (h : constX e = some d) : PE X e (tS (Cx.G X) fun ρ => some (.im d, ρ)) := by
  unfold constX at h
  split at h
  · rename_i i k1 p1 j k2 p2 pos
    split at h
    · rename_i hc
      cases h
      refine PE.of fun σ H Q q => ?_
      obtain ⟨ρ, s, ρ', H0, hev, E, q⟩ := q
      cases hev
      refine ⟨_, pe_op op_pow pe_int pe_int, ?_⟩
      exact ⟨i, j, rfl, rfl, ⟨hc.1, by omega, hc.2.2⟩, q _ H H0 (Tr.refl _ _ _ _) E (rsl_im (rep_int _))⟩
    · cases h
  · exact pe_dict h
theorem hkC_ok {X : L2.Cx} (e : Expr) : PE X e (tS (Cx.G X) fun ρ => match constX e with | some d => some (.im d, ρ) | none => none) := by
  cases hc : constX e with
  | none =>
    refine PE.of fun σ H Q q => ?_
    obtain ⟨ρ, s, ρ', H0, hev, _⟩ := q
    cases hev
  | some d => exact pe_constX hc
/-- places of the text that are what they are wherever they stand -/
def xtC (b : Bool) : Xt := { b := b, hk := some fun _ _ ρ e => match constX e with | some d => some (.im d, ρ) | none => none, on := fun _ => true }
section
variable {P : Program} {w : World} {K : PySem.W.Frag} {mg : Str → Option Value} {base : Heap} {k : Nat} {gl : Str → Option Sl} {fns : Str → Option Fn}
theorem MOk.cxH {b : Bool} (M : MOk gl fns P w K mg base k) {N ps : List Str} {sc : Scope} (S : FnScope N ps sc) {qual : Str} {f : Addr} {cdv : Value} {A : Around} {outer : List Env} {s : Shared} {H : Hp} {E : XK} (hr : Room k (A.deeper (envOfC qual sc s.heap.objs.size f cdv))) :
    SOk ⟨N, gl, fns, xtC b⟩ sc k (cxOf CX0 P w K mg base N qual sc f cdv A outer s H E).nox :=
  ⟨⟨⟨rfl, S.nd, rfl, M.gl⟩, (fun h hh _ r he ht e => by
    cases hh
    exact hkC_ok e), (fun z => nomatch z), rfl, hr, fun x fn h => (M.fns x fn h).here hr, M.blt, M.isi, M.tys⟩, fun _ => rfl, S.kind, PassesOwn.never⟩
/-- one def more, of such a text -/
theorem MOk.nextH (M : MOk gl fns P w K mg base k) {box : Bool} {ar : Nat} {b : Bool} {N ps : List Str} {x : Str} {st : Stmt} {f : Addr} (D : DefK K x st f) (S : FnScope N ps (defScope st)) (hmg : mg x = some (.ref f)) (har : ar = ps.length) (hps : ps.length ≤ N.length)
    (hb : ∀ (kV doc pm : Value) (an : Option Addr) (cdv ct : Value) (us : List Value), us.length = ps.length → bindArgs (PySem.W.fnOf x x (defArgs st) (defBody st) (defScope st) .none kV doc pm an cdv ct) ⟨us, []⟩ = pure (ps.zip us)) :
    MOk gl (addF fns x (evFn N gl fns st box ar (xtC b))) P w K mg base (k + 1) := by
  obtain ⟨fd, F⟩ := D.fun
  have fo : FnOk P w K mg base CX0 (k + 1) f fd ps (spOf (K, mg) (evFn N gl fns st box ar (xtC b))) := F.ok S (fun vs H Q E h => h.1.trans har) fun cdv A outer s H vs Q E hr h =>
    body_ok _ (M.cxH (b := b) S (qual := x) (f := f) (cdv := cdv) (outer := outer) (H := H) (E := E) hr) har hps (fun bs as s bs' h _ => evFn_run0 bs as s bs' h) h
  exact M.add ⟨f, fd, ps, hmg, F.kp, FnOk.toCX fo, F.binds hb⟩
end
end Dv

set_option Elab.async false
set_option linter.all false
set_option maxRecDepth 100000
set_option maxHeartbeats 1000000
namespace Dv
open PySem PySem.Spec L2 RZ
open PyProof.Rows (envOfC IntsAre AllBare)
/-! the end of a law that asks for repr and makes lambdas: its def is read for the very caller of the claims -/
abbrev tabO : Obj := { cls := .none, data := .fields #[] }
abbrev scrO (vs : List Value) : Obj := { cls := .type "list", data := .seq vs.toArray }
/-- what is tracked at first: the tables, and the script where it is not the module's own -/
def hpOf (T : List Addr) (own : Bool) (a : Addr) (u : HO) : Hp := fun b => if b ∈ T then some (.tbl #[]) else if own = true ∧ b = a then some u else none
theorem hpOf_some {T : List Addr} {own : Bool} {a b : Addr} {u x : HO} (h : hpOf T own a u b = some x) : (b ∈ T ∧ x = .tbl #[]) ∨ (b ∉ T ∧ own = true ∧ b = a ∧ x = u) := by
  unfold hpOf at h
  split at h
  · rename_i z; exact .inl ⟨z, (Option.some.inj h).symm⟩
  · rename_i z
    split at h
    · rename_i y; exact .inr ⟨z, y.1, y.2, (Option.some.inj h).symm⟩
    · cases h
theorem hpOf_tab {T : List Addr} {own : Bool} {a b : Addr} {u : HO} (h : b ∈ T) : hpOf T own a u b = some (.tbl #[]) := by unfold hpOf; rw [if_pos h]
theorem hpOf_scr {T : List Addr} {a : Addr} {u : HO} (h : a ∉ T) : hpOf T true a u a = some u := by unfold hpOf; rw [if_neg h, if_pos ⟨rfl, rfl⟩]
section
variable {P : Program} {w : World} {K : PySem.W.Frag} {mg mb : Str → Option Value}
theorem run_law {fa a bm : Addr} {cs : List (Addr × Addr)} {s : Shared} {vs : List Value} {ns : List Int} {ob : Obj} (kin : K.In s.heap) (g : s.heap.Ns mainGlobals mg) (b : s.heap.Ns builtinsNs mb)
    (bb : ∀ x : Str, x ≠ "__name__" → mb x = bootBuiltins x) (lim : s.heap.NoLimit) (gens : s.gens = #[]) (tab : ∀ p ∈ cs, s.heap.get? p.2 = some tabO ∧ K.lookup p.2 = none ∧ PySem.W.CodeHd s.heap p.1 p.2)
    (m1 : mg "__builtins__" = some (.ref bm)) (m2 : bm ≠ builtinsNs) (m3 : s.heap.get? bm = some ob) (m4 : ob.cls = .type "module") (m5 : ob.dict = some builtinsNs) (m6 : ob.data = .plain)
    (scr : s.heap.get? a = some (scrO vs)) (ivs : IntsAre vs ns) (len : ns.length ≤ sizeLine)
    (run : ∀ (base : Heap) (H : Hp), K.In base → base.Ns mainGlobals mg → (∀ p ∈ cs, LamX.TabB base mg p.1 p.2 ∧ H p.2 = some (.tbl #[])) → SqL K H a (ns.map V.int) → Env0 P w K mg base callerA [] s H →
      codeAny (model P w) callerA (.call (.ref fa) ⟨[.ref a], []⟩) (CR CX0 [] P w H s (fun v _ => v = .bl true) fun _ _ _ => False) s) :
    codeAny (model P w) callerA (.call (.ref fa) ⟨[.ref a], []⟩) (fun r s' => r = .ok (.ret (.bool true)) ∧ OldK s.heap s'.heap ∧ s'.os = s.os ∧ AllBare s'.gens) s := by
  have rv := vals_ints ivs
  have ll := ivs.length
  have inT : ∀ t ∈ cs.map (·.2), s.heap.get? t = some tabO ∧ K.lookup t = none := fun t ht => by
    obtain ⟨p, hp, rfl⟩ := List.mem_map.mp ht
    exact ⟨(tab p hp).1, (tab p hp).2.1⟩
  have aT : a ∉ cs.map (·.2) := fun z => by
    have q := scr.symm.trans (inT a z).1
    injection q with q
    have q2 : Data.seq vs.toArray _ = Data.fields #[] := congrArg Obj.data q
    cases q2
  have hsm := @hpOf_some (cs.map (·.2)) (K.lookup a).isNone a
  generalize hH : hpOf (cs.map (·.2)) (K.lookup a).isNone a (.frz (scrO vs) (.lst (ns.map V.int))) = H
  have some_ : ∀ {t x}, H t = some x → (t ∈ cs.map (·.2) ∧ x = .tbl #[]) ∨ (t ∉ cs.map (·.2) ∧ (K.lookup a).isNone = true ∧ t = a ∧ x = .frz (scrO vs) (.lst (ns.map V.int))) := fun {t x} e => by
    rw [← hH] at e
    exact hsm e
  have tabs : ∀ t ∈ cs.map (·.2), H t = some (.tbl #[]) := fun t ht => by rw [← hH]; exact hpOf_tab ht
  have hok : HOk P w H s.heap := fun t x e => by
    rcases some_ e with ⟨z, rfl⟩ | ⟨_, _, rfl, rfl⟩
    · exact (inT t z).1
    · exact ⟨scr, by simpa using len, vs, _, rv, scr⟩
  have sq : SqL K H a (ns.map V.int) := by
    cases hk : K.lookup a with
    | none => exact .inl (.inr ⟨scrO vs, by rw [← hH, hk]; exact hpOf_scr aT⟩)
    | some o =>
      have q := (kin a o hk).symm.trans scr
      cases q
      exact .inr ⟨_, _, _, hk, rfl, rfl, rfl, by rw [List.size_toArray, ll]; exact len, by simpa using rv⟩
  have off : ∀ {t : Addr} {o : Obj}, s.heap.get? t = some o → (∀ xs n, o.data = .seq xs n → False) → (o.data = .fields #[] → False) → H t = none := fun {t o} e h1 h2 => by
    cases hu : H t with
    | none => rfl
    | some u =>
      rcases some_ hu with ⟨z, _⟩ | ⟨_, _, z, _⟩
      · have q := e.symm.trans (inT t z).1
        cases q
        exact (h2 rfl).elim
      · subst z
        have q := e.symm.trans scr
        cases q
        exact (h1 _ _ rfl).elim
  have nsB : ∀ {t : Addr} {m : Str → Option Value}, s.heap.Ns t m → (hidT s.heap H).Ns t m := fun {t m} ⟨o, es, ep, e, d, r⟩ =>
    ⟨o, es, ep, hidT_get e (off e (fun _ _ z => nomatch d.symm.trans z) fun z => nomatch d.symm.trans z), d, r⟩
  have kB : K.In (hidT s.heap H) := fun t o e => hidT_get (kin t o e) (by
    cases hu : H t with
    | none => rfl
    | some u =>
      rcases some_ hu with ⟨z, _⟩ | ⟨_, z1, z, _⟩
      · cases e.symm.trans (inT t z).2
      · subst z
        rw [e] at z1
        cases z1)
  have tB : ∀ p ∈ cs, LamX.TabB (hidT s.heap H) mg p.1 p.2 ∧ H p.2 = some (.tbl #[]) := fun p hp => by
    obtain ⟨t1, t2, o, us, file, tf, flags, tg, inF, text, tt, c1, c2, c3, c4, c5⟩ := tab p hp
    refine ⟨⟨⟨o, us, file, tf, flags, tg, inF, text, tt, hidT_get c1 (off c1 (fun _ _ z => nomatch c3.symm.trans z) fun z => ?_), c2, c3, c4, c5⟩, ⟨bm, ob, m1, m2, fun z => ?_, fun z => ?_, hidT_get m3 (off m3 (fun _ _ z => nomatch m6.symm.trans z) fun z => nomatch m6.symm.trans z), m4, m5, m6⟩, fun z => ?_⟩, tabs _ (List.mem_map.mpr ⟨p, hp, rfl⟩)⟩
    · have q := c3.symm.trans z
      injection q with q
      subst q
      cases c4
    · subst z
      obtain ⟨o', es, ep, e, d, _⟩ := g
      cases m3.symm.trans e
      cases m6.symm.trans d
    · subst z
      cases m3.symm.trans t1
      cases m6
    · obtain ⟨o', es, ep, e, d, _⟩ := g
      rw [z] at e
      cases e.symm.trans t1
      cases d
  have e0 : Env0 P w K mg (hidT s.heap H) callerA [] s H := ⟨rfl, ⟨kB, nsB g, ⟨mb, nsB b, bb⟩, let ⟨mc, z1, z2⟩ := lim; ⟨mc, nsB z1, z2⟩⟩, fun _ _ e => of_hidT e, Nat.le_of_eq (hidT_size _ _), trivial, fun t z => absurd (show t ∈ ([] : List Addr) from z) (by simp), hok, .of_eq gens⟩
  refine codeAny_mono (run (hidT s.heap H) H kB (nsB g) tB sq e0) fun r s' h => ?_
  cases r with
  | error e => exact False.elim h
  | ok fl =>
    cases fl with
    | brk => exact False.elim h
    | cont => exact False.elim h
    | next => exact False.elim h
    | ret u =>
      obtain ⟨v, H', os, bare, un, hok', rr, q⟩ := h
      have q' : v = V.bl true := q
      subst q'
      have hu : u = Value.bool true := rr
      subst hu
      have now : ∀ t o, s.heap.get? t = some o → asItWas s.heap s'.heap t o ∧ ∃ o', s'.heap.get? t = some o' := fun t o e => by
        cases hu : H t with
        | none =>
          have z := un.keep t o e hu (by simp [frs]) (by simp)
          exact ⟨.inl z, o, z⟩
        | some x =>
          rcases some_ hu with ⟨z, rfl⟩ | ⟨_, _, rfl, rfl⟩
          · obtain ⟨more, z2⟩ := un.tbls t #[] hu
            have z3 := hok' t _ z2
            rw [Array.empty_append] at z3
            obtain ⟨p, hp, ep⟩ := List.mem_map.mp z
            subst ep
            cases e.symm.trans (inT _ z).1
            exact ⟨.inr (.inl ⟨((tab p hp).2.2.tab (inT _ z).1).isCodeTable, rfl, #[], more, rfl, by rw [Array.empty_append]; exact z3⟩), _, z3⟩
          · cases e.symm.trans scr
            obtain ⟨z3, _⟩ := hok' t _ (un.frzs t _ _ hu)
            exact ⟨.inl z3, _, z3⟩
      exact ⟨rfl, ⟨fun t o e => (now t o e).1, fun t o e => (now t o e).2⟩, os, bare⟩
end
/-- what is to be shown of the law, at the heap that the top leaves -/
structure LawC (l : PySem.W.OpenLaw) (w : World) (K : PySem.W.Frag) (n : Nat) (mg : Str → Option Value) (fa : Addr) (h : Heap) (cs : List (Addr × Addr)) : Prop where
  tab : ∀ p ∈ cs, h.get? p.2 = some tabO ∧ K.lookup p.2 = none ∧ PySem.W.CodeHd h p.1 p.2
  run : ∀ (base : Heap) (s : Shared) (H : Hp) (a : Addr) (ns : List Int), K.In base → base.Ns mainGlobals mg → (∀ p ∈ cs, LamX.TabB base mg p.1 p.2 ∧ H p.2 = some (.tbl #[])) → ns.length ≤ n → SqL K H a (ns.map V.int) → Env0 l.prog w K mg base callerA [] s H →
    codeAny (model l.prog w) callerA (.call (.ref fa) ⟨[.ref a], []⟩) (CR CX0 [] l.prog w H s (fun v _ => v = .bl true) fun _ _ _ => False) s
theorem walk_law {l : PySem.W.OpenLaw} {n : Nat} {q : Program} {loose : List Str} {XP : (Str → Option Value) → Heap → Prop} {YP : World → Heap → Prop} {d : DefRec} {K : Params → PySem.W.Frag} (hn : l.most = some n) (hn2 : n ≤ sizeLine) (hdf : d.params.defaults = [])
    (hq : ((PyProof.Rows.recsOf q).any fun r => r.name == d.name) = true) (hY : ∀ (w : World) (h : Heap), YP w h → (K w.params).In h)
    (F : ∀ (w : World) (mg : Str → Option Value) (fa : Addr) (h : Heap), YP w h → (K w.params).In h → h.Ns mainGlobals mg → mg d.name = some (.ref fa) → LamX.OwnTab (K w.params) fa h → ∃ cs, LawC l w (K w.params) n mg fa h cs) :
    PySem.W.WalkO q loose XP YP l.row.toRowW d [] (fun f vs => PySem.call f vs) := by
  refine Att.attach_callB hn hdf fun w s₀ s mg mb fa o pm cd doc a vs ns G Y _ _ _ hmg scr ivs len _ gens => ?_
  have kin := hY w _ Y
  have own : LamX.OwnTab (K w.params) fa s.heap := by
    intro c P ob fd e dd us sl k1 k2 k3 k4 k5
    obtain ⟨r, r1, r2⟩ := List.any_eq_true.mp hq
    obtain ⟨b, ob', fd', c', P', g1, g2, g3, g4, g5, ⟨oc, vc, t1, _, t3, t4⟩, t5⟩ := G.T.tab r r1
    rw [beq_iff_eq.mp r2] at g1
    cases g1.symm.trans hmg
    cases g2.symm.trans (kin _ _ k1)
    cases g3.symm.trans k2
    cases g4.symm.trans k3
    cases t1.symm.trans (kin _ _ k4)
    cases t3
    cases t4.symm.trans k5
    exact t5
  obtain ⟨cs, L⟩ := F w mg fa _ Y kin G.T.g hmg own
  obtain ⟨bm, ob, b1, b2, b3, b4, b5, b6⟩ := G.T.bmain
  exact run_law kin G.T.g G.T.b G.T.builtins G.T.nolimit gens L.tab b1 b2 b3 b4 b5 b6 scr ivs (Nat.le_trans len hn2) fun base H k1 k2 k3 k4 e0 => L.run base s H a ns k1 k2 k3 len k4 e0
end Dv

set_option Elab.async false
set_option linter.all false
set_option maxRecDepth 100000
set_option maxHeartbeats 1000000
namespace Dv
open PySem PySem.Spec L2 RZ
open PyProof.Rows (envOfC)
variable [TabC]
/-! a law's def: x(lambda: f(..)) has an evaluator of its own, repr is allowed -/
structure SaidH where
  x : Str
  RF : Str → Option RzF
  wd : Str → Option Str
def saidHk (S : SaidH) (N : List Str) (gl : Str → Option Sl) (fns : Str → Option Fn) : Evs → Scope → Rho → Expr → Option (Sl × Rho) := fun _ sc ρ e => match e with
  | .Call (.Name y _) [.Lambda ⟨[], [], none, [], [], none, []⟩ (.Call (.Name f pf) (a :: es) [] pc) scope _] [] _ => if y = S.x ∧ LamX.lamSB sc scope = true then saidE ⟨N, gl, fns, ({ b := false } : Xt)⟩ S.RF S.wd scope (.Call (.Name f pf) (a :: es) [] pc) f (a :: es) ρ else none
  | e => match constX e with
    | some d => some (.im d, ρ)
    | none => none
theorem saidHk_ok {X : L2.Cx} {k : Nat} {S : SaidH} {CE : Addr} {st : Stmt} {Nw N : List Str} {gl : Str → Option Sl} {fns : Str → Option Fn} {sc : Scope} (r : Evs) (hsc : X.env.scope = sc) (hL : SaidOk X k S.x CE st Nw) (M : MOk gl fns X.prog X.w X.K X.mg X.base k) (hN : X.N = N) (nd : N.Nodup)
    (hRF : ∀ f g, S.RF f = some g → FRz X.prog X.w X.K X.mg X.base k f g) (hwd : ∀ cn t, S.wd cn = some t → ∃ Dc, X.mg cn = some (.ref Dc) ∧ WordOf X.K X.mg st Nw Dc t ∧ PySem.W.exmOne X.K (.ref Dc) (.ref CE) = some true) (e : Expr) :
    PE X e (tS (Cx.G X) fun ρ => saidHk S N gl fns r sc ρ e) := PE.of fun σ H Q q => by
  obtain ⟨ρ, s, ρ', H0, hev, E, q⟩ := q
  dsimp only at hev
  unfold saidHk at hev
  split at hev
  · split at hev
    · rename_i hc
      obtain ⟨rfl, hs⟩ := hc
      exact ⟨_, pe_said hL M hN nd hRF hwd (LamX.lamS_by (by rw [hsc]; exact hs)) rfl (fun _ _ _ _ _ => rfl), ρ, s, ρ', H0, hev, E, q⟩
    · cases hev
  · split at hev
    · rename_i d hd
      cases hev
      exact ⟨_, pe_constX hd, ρ, _, _, H0, rfl, E, q⟩
    · cases hev
/-- the places of the law's own text -/
def xtL (S : SaidH) (N : List Str) (gl : Str → Option Sl) (fns : Str → Option Fn) (x : Str) : Xt := { b := false, hk := some (saidHk S N gl fns), on := fun sc => decide (sc.names.lookup x = some .local), rp := true }
section
variable {P : Program} {w : World} {K : PySem.W.Frag} {mg : Str → Option Value} {base : Heap} {k : Nat} {gl : Str → Option Sl} {fns : Str → Option Fn}
/-- the law's def is called by the caller of the claims -/
theorem law_runs {S : SaidH} {fnsL : Str → Option Fn} {x : Str} {N : List Str} {st : Stmt} {fa a : Addr} {oc : Value} {od an : Option Addr} {osl : Array (Option Value)} {kV doc pm cdv ct : Value}
    (lk : K.lookup fa = some ⟨oc, od, .func (PySem.W.fnOf "law" "law" (defArgs st) (defBody st) (defScope st) .none kV doc pm an cdv ct), osl⟩) (hcd : PySem.W.codeIn K cdv "law" = true) (Sc : FnScope N [x] (defScope st)) (hN : 1 ≤ N.length) (M : MOk gl fns P w K mg base k) (hr : Room (k + 2 + 1) callerA)
    (hb : bindArgs (PySem.W.fnOf "law" "law" (defArgs st) (defBody st) (defScope st) .none kV doc pm an cdv ct) ⟨[.ref a], []⟩ = pure ([x].zip [.ref a])) (hrp : mg "repr" = none)
    {CE : Addr} {sw : Stmt} {Nw : List Str} (hRF : ∀ f g, S.RF f = some g → FRz P w K mg base k f g) (hwd : ∀ cn t, S.wd cn = some t → ∃ Dc, mg cn = some (.ref Dc) ∧ WordOf K mg sw Nw Dc t ∧ PySem.W.exmOne K (.ref Dc) (.ref CE) = some true)
    (hL : ∀ X : L2.Cx, X.prog = P → X.w = w → X.K = K → X.mg = mg → X.base = base → X.env.scope = defScope st → X.env.code = cdv → X.env.qual = ("law" : Str) ++ ".<locals>." → X.A.guards = some [] → Room (k + 2) X.A → SaidOk X k S.x CE sw Nw)
    (hfns : ∀ X : L2.Cx, X.prog = P → X.w = w → X.K = K → X.mg = mg → X.base = base → X.A.guards = some [] → Room (k + 2) X.A → ∀ y fn, fnsL y = some fn → FOk k X y fn)
    {s : Shared} {H H0 : Hp} {ns : List Int} (e0 : Env0 P w K mg base callerA [] s H) (tb : TbOk H0 H) (ex : Ex H0 H) (sq : SqL K H0 a (ns.map V.int))
    (hrun : wRun (evFn N gl fnsL st false 1 (xtL S N gl fns x)) [] [.fz ns] fun s bs => s = .im (.bool true) ∧ bs = []) :
    codeAny (model P w) callerA (.call (.ref fa) ⟨[.ref a], []⟩) (CR CX0 [] P w H s (fun v _ => v = .bl true) fun _ _ _ => False) s := by
  refine LamX.run_ofS (N := N) (ps := [x]) (us := [.ref a]) (vs := [.ref a]) lk hcd Sc hr e0 (.of_eq hb) (.cons rfl .nil) rfl fun hr' => ?_
  have SO : SOk ⟨N, gl, fnsL, xtL S N gl fns x⟩ (defScope st) k (cxOf CX0 P w K mg base N "law" (defScope st) fa cdv callerA [] s H (fun _ _ _ => False)).nox := by
    refine ⟨⟨⟨rfl, Sc.nd, rfl, M.gl⟩, fun h hh hon r he ht e => ?_, fun _ => ⟨rfl, hrp⟩, rfl, hr'.mono (by omega), hfns _ rfl rfl rfl rfl rfl rfl hr', M.blt, M.isi, M.tys⟩, fun _ => rfl, Sc.kind, PassesOwn.never⟩
    cases hh
    exact saidHk_ok r rfl (hL _ rfl rfl rfl rfl rfl rfl rfl rfl rfl hr') M rfl Sc.nd hRF hwd e
  obtain ⟨sl, bs, hev, rfl, rfl⟩ := hrun
  obtain ⟨t, ht, hq⟩ := body_ok (ps := [x]) (vs := [.ref a]) (Q := fun v _ => v = .bl true) (E' := fun _ _ _ => False) (evFn N gl fnsL st false 1 (xtL S N gl fns x)) SO rfl hN (fun bs as s bs' h _ => evFn_run0 bs as s bs' h) (by
    refine ⟨rfl, H0, tb, ex, ?_⟩
    split
    · exact ⟨[.fz ns], _, ⟨_, _, rfl, ⟨a, rfl, sq⟩, rfl⟩, hev, fun v H' H0' _ r => Rep.bl (G := (K, mg)) (H := H0') r⟩
    · rename_i hn
      exact absurd rfl hn)
  exact ⟨t, ht.nox, hq⟩
/-- where no def wants that no repr is under way -/
theorem plain_fns (M : MOk gl fns P w K mg base k) : ∀ X : L2.Cx, X.prog = P → X.w = w → X.K = K → X.mg = mg → X.base = base → X.A.guards = some [] → Room (k + 2) X.A → ∀ y fn, fns y = some fn → FOk k X y fn := fun X e1 e2 e3 e4 e5 _ hr y fn h => by
  subst e1 e2 e3 e4 e5
  exact (M.fns y fn h).here (hr.mono (by omega))
def xtR (b : Bool) : Xt := { b := b, rp := true }
/-- a def that asks for repr, called where none is under way -/
theorem repr_def {X : L2.Cx} (M : MOk gl fns X.prog X.w X.K X.mg X.base k) {box : Bool} {ar : Nat} {b : Bool} {N ps : List Str} {x : Str} {st : Stmt} {f : Addr} (D : DefK X.K x st f) (Sc : FnScope N ps (defScope st)) (hmg : X.mg x = some (.ref f)) (har : ar = ps.length) (hps : ps.length ≤ N.length) (hg : X.A.guards = some []) (hrp : X.mg "repr" = none) (hr : Room (k + 1) X.A)
    (hb : ∀ (kV doc pm : Value) (an : Option Addr) (cdv ct : Value) (us : List Value), us.length = ps.length → bindArgs (PySem.W.fnOf x x (defArgs st) (defBody st) (defScope st) .none kV doc pm an cdv ct) ⟨us, []⟩ = pure (ps.zip us)) {j : Nat} :
    FOk j X x (evFn N gl fns st box ar (xtR b)) := by
  obtain ⟨fd, F⟩ := D.fun
  have B := F.binds hb
  obtain ⟨oc, od, kV, doc, pm, an, cdv, ct, osl, rfl, lk, hcd⟩ := F.ex
  refine ⟨f, _, ps, hmg, F.kp, ⟨fun vs H Q E h => h.1.trans har, fun outer s H args us vs Q E e0 hb' r h => ?_⟩, B⟩
  have hl : vs.length = ps.length := h.1.trans har
  refine codeAny_mono (LamX.run_ofS (CX := CX0) (N := N) (E := E) lk hcd Sc hr e0 hb' r hl fun hr' => ?_) fun r s' h => (by
    cases r with
    | ok r => cases r <;> exact h
    | error e => exact absurd h (fun z => z))
  have SO : SOk ⟨N, gl, fns, xtR b⟩ (defScope st) k (cxOf CX0 X.prog X.w X.K X.mg X.base N x (defScope st) f cdv X.A outer s H E).nox :=
    ⟨⟨⟨rfl, Sc.nd, rfl, M.gl⟩, (fun _ z => nomatch z), fun _ => ⟨hg, hrp⟩, rfl, hr', fun y fn h => (by obtain ⟨f, fd, ps, a, b, c, d⟩ := (M.fns y fn h).ex; exact ⟨f, fd, ps, a, b, .of c hr', d⟩), M.blt, M.isi, M.tys⟩, fun _ => rfl, Sc.kind, PassesOwn.never⟩
  obtain ⟨t, ht, hq⟩ := body_ok (evFn N gl fns st box ar (xtR b)) SO har hps (fun bs as s bs' h _ => evFn_run0 bs as s bs' h) h
  exact ⟨t, ht.nox, hq⟩
/-- the heap without its tables -/
def untab (H : Hp) : Hp := fun b => match H b with
  | some (.tbl _) => none
  | u => u
theorem untab_ex (H : Hp) : Ex (untab H) H := fun b o h => by
  unfold untab at h
  split at h
  · cases h
  · exact h
theorem untab_no (H : Hp) (b : Addr) (ps : Array Value) : untab H b ≠ some (.tbl ps) := fun h => by
  unfold untab at h
  split at h
  · cases h
  · rename_i hn; exact hn ps h
theorem untab_sq {H : Hp} {a : Addr} {xs : List V} (h : SqL K H a xs) : SqL K (untab H) a xs := by
  rcases h with (h | ⟨o, h⟩) | h
  · exact .inl (.inl (by unfold untab; rw [h]))
  · exact .inl (.inr ⟨o, by unfold untab; rw [h]⟩)
  · exact .inr h
end
end Dv

set_option Elab.async false
set_option linter.all false
set_option maxRecDepth 100000
set_option maxHeartbeats 1000000
namespace Dv
open PySem PySem.Spec L2 RZ
open PyProof.Rows (envOfC)
variable [TabC]
/-! places of the text with an evaluator of their own, in general -/
abbrev Hk := Evs → Scope → Rho → Expr → Option (Sl × Rho)
/-- what a place gives to such evaluators -/
structure HkX (X : L2.Cx) (sc : Scope) (k : Nat) : Prop where
  sc : X.env.scope = sc
  calm : X.calm = true
  room : Room k X.A
  blt : ∀ x v, bltV x = some v → X.mg x = none
  isi : X.mg "isinstance" = none ∧ X.mg "range" = none ∧ X.mg "enumerate" = none ∧ X.mg "zip" = none ∧ X.mg "set" = none
  tys : X.mg "int" = none ∧ X.mg "bool" = none ∧ X.mg "tuple" = none ∧ X.mg "str" = none ∧ X.mg "list" = none
theorem HkX.gl {X : L2.Cx} {sc : Scope} {k : Nat} (K : HkX X sc k) {x : Str} (h : globB sc x = true) : Gl X x := by
  unfold Gl Env.kindOf
  rw [K.sc]
  exact of_decide_eq_true h
structure HkOk (h : Hk) : Prop where
  ok : ∀ {X : L2.Cx} {sc : Scope} {k : Nat} (_ : HkX X sc k) (r : Evs), (∀ e, PE X e (tS (Cx.G X) fun ρ => r.e sc ρ e)) → (∀ e, PT X e (tT (Cx.G X) fun ρ => r.t sc ρ e)) → ∀ e, PE X e (tS (Cx.G X) fun ρ => h r sc ρ e)
def hkOr (h g : Hk) : Hk := fun r sc ρ e => match h r sc ρ e with
  | some q => some q
  | none => g r sc ρ e
theorem HkOk.or {h g : Hk} (a : HkOk h) (b : HkOk g) : HkOk (hkOr h g) := ⟨fun {X sc k} K r he ht e => PE.of fun σ H Q q => by
  obtain ⟨ρ, s, ρ', H0, hev, E, q⟩ := q
  dsimp only at hev
  unfold hkOr at hev
  split at hev
  · rename_i z hz
    cases hev
    exact ⟨_, a.ok K r he ht e, ρ, s, ρ', H0, hz, E, q⟩
  · exact ⟨_, b.ok K r he ht e, ρ, s, ρ', H0, hev, E, q⟩⟩
def hkC : Hk := fun _ _ ρ e => match constX e with
  | some d => some (.im d, ρ)
  | none => none
theorem hkC_ok' : HkOk hkC := ⟨fun _ r he ht e => hkC_ok e⟩
theorem base_args (o a0 : Expr) (es : List Expr) (ks : List Keyword) (po : Pos) (at_ : Str) (env : Env) (whole : Sem Value) : attributeBase (.Call o (a0 :: es) ks po) at_ env whole = whole := by
  cases o <;> rfl
/-- a tuple -/
def wholeT : Sl → Option (List D)
  | .tt ds => some ds
  | .im (.tuple ds) => some ds
  | _ => none
theorem wholeT_ok {G : Ctx} {ρ ρ' : Rho} {σ : St} {H H0' H' : Hp} {s : Sl} {v : V} {ds : List D} (h : wholeT s = some ds) (r : RSl G ρ σ H ρ' H0' H' s v) : ∃ a, v = .ref a ∧ TupN G H0' a ds := by
  unfold wholeT at h
  split at h
  · cases h; exact r
  · cases h; exact Rep.tupN (G := G) (H := H0') r
  · cases h
/-- f(..).count(b) -/
def hkCnt : Hk := fun r sc ρ e => match e with
  | .Call (.Attribute (.Call o (a0 :: es) ks po) m apos) [b] [] cpos => if m = "count" ∧ (apos.endLine == cpos.line) = true ∧ notStar b = true then match r.e sc ρ (.Call o (a0 :: es) ks po) with
    | some (s, ρ1) => match wholeT s with
      | some ds => match r.d sc ρ1 b with
        | some (d, ρ2) => if flatD d = true ∧ ds.all flatD = true then some (.im (.int (cntD d ds : Nat)), ρ2) else none
        | none => none
      | none => none
    | none => none
    else none
  | _ => none
theorem hkCnt_ok : HkOk hkCnt := ⟨fun {X sc k} K r he ht e => PE.of fun σ H Q q => by
  obtain ⟨ρ, s, ρ', H0, hev, E, q⟩ := q
  dsimp only at hev
  unfold hkCnt at hev
  split at hev
  · rename_i o a0 es ks po m apos b cpos
    split at hev
    · rename_i hc
      obtain ⟨rfl, hl, hs⟩ := hc
      split at hev
      · rename_i s0 ρ1 h1
        split at hev
        · rename_i ds hw
          split at hev
          · rename_i d ρ2 h2
            split at hev
            · rename_i hf
              cases hev
              refine ⟨_, pe_tcount (he (.Call o (a0 :: es) ks po)) (pa_cons (tD_of (he b)) pa_nil (star_of hs)) (base_args _ _ _ _ _ _ _ _) hl (star_of hs), ρ, s0, ρ1, H0, h1, E, fun v H1 H01 T1 E1 r1 => ?_⟩
              obtain ⟨a, rfl, o', vs, h3, h4, h5⟩ := wholeT_ok hw r1
              refine ⟨⟨a, o', vs, rfl, E1.ex _ _ h3, h4⟩, ρ1, d, ρ', H01, h2, E1, fun w H2 H02 T2 E2 r2 => ?_⟩
              have r4 := h5.ex T2.ex
              obtain ⟨fs, _⟩ := inV_of hf.1 r2 hf.2 r4
              refine ⟨a, o', vs, w, rfl, rfl, E2.ex _ _ (T2.ex _ _ h3), flat_v hf.1 r2, fs, ?_⟩
              rw [cntD_of hf.1 r2 hf.2 r4]
              exact q _ _ _ (T1.trans T2) E2 (rsl_im (rep_int _))
            · cases hev
          · cases hev
        · cases hev
      · cases hev
    · cases hev
  · cases hev⟩
def xtH (b : Bool) (h : Hk) : Xt := { b := b, hk := some h, on := fun _ => true }
section
variable {P : Program} {w : World} {K : PySem.W.Frag} {mg : Str → Option Value} {base : Heap} {k : Nat} {gl : Str → Option Sl} {fns : Str → Option Fn}
theorem MOk.nextK (M : MOk gl fns P w K mg base k) {box : Bool} {ar : Nat} {b : Bool} {hk : Hk} (hh : HkOk hk) {N ps : List Str} {x : Str} {st : Stmt} {f : Addr} (D : DefK K x st f) (S : FnScope N ps (defScope st)) (hmg : mg x = some (.ref f)) (har : ar = ps.length) (hps : ps.length ≤ N.length)
    (hb : ∀ (kV doc pm : Value) (an : Option Addr) (cdv ct : Value) (us : List Value), us.length = ps.length → bindArgs (PySem.W.fnOf x x (defArgs st) (defBody st) (defScope st) .none kV doc pm an cdv ct) ⟨us, []⟩ = pure (ps.zip us)) :
    MOk gl (addF fns x (evFn N gl fns st box ar (xtH b hk))) P w K mg base (k + 1) := by
  obtain ⟨fd, F⟩ := D.fun
  have fo : FnOk P w K mg base CX0 (k + 1) f fd ps (spOf (K, mg) (evFn N gl fns st box ar (xtH b hk))) := F.ok S (fun vs H Q E h => h.1.trans har) fun cdv A outer s H vs Q E hr h =>
    body_ok _ (⟨⟨⟨rfl, S.nd, rfl, M.gl⟩, (fun h hh' _ r he ht e => by cases hh'; exact hh.ok ⟨rfl, rfl, hr, M.blt, M.isi, M.tys⟩ r he ht e), (fun z => nomatch z), rfl, hr, fun x fn h => (M.fns x fn h).here hr, M.blt, M.isi, M.tys⟩, fun _ => rfl, S.kind, PassesOwn.never⟩ :
      SOk ⟨N, gl, fns, xtH b hk⟩ (defScope st) k (cxOf CX0 P w K mg base N x (defScope st) f cdv A outer s H E).nox) har hps (fun bs as s bs' h _ => evFn_run0 bs as s bs' h) h
  exact M.add ⟨f, fd, ps, hmg, F.kp, FnOk.toCX fo, F.binds hb⟩
end
end Dv

set_option Elab.async false
set_option linter.all false
set_option maxRecDepth 100000
set_option maxHeartbeats 400000
namespace Dv
open PySem PySem.Spec L2
/-! what repr tells of data by their size: m how deep, b how many -/
structure Gx (m b : Nat) (d : D) : Prop where
  sh : d.showable = true
  pd : plainD d = true
  dp : d.depth ≤ m
  ls : d.leavesShort 40 = true
  bk : d.bulk ≤ b
/-- .. without a dict or a list -/
structure Cn (m b : Nat) (d : D) : Prop where
  sh : d.showable = true
  hd : d.hasDict = false
  nl : noLs d = true
  dp : d.depth ≤ m
  ls : d.leavesShort 40 = true
  bk : d.bulk ≤ b
mutual
theorem plain_of : ∀ {d : D}, d.hasDict = false → plainD d = true
  | .none, _ => rfl
  | .bool _, _ => rfl
  | .int _, _ => rfl
  | .str _, _ => rfl
  | .dict _, h => by simp [PyData.hasDict] at h
  | .tuple ds, h => by simp only [PyData.hasDict] at h; simp only [plainD]; exact plain_ofs h
  | .list ds, h => by simp only [PyData.hasDict] at h; simp only [plainD]; exact plain_ofs h
theorem plain_ofs : ∀ {ds : List D}, PyData.hasDictAll ds = false → plainDs ds = true
  | [], _ => rfl
  | d :: ds, h => by
    simp only [PyData.hasDictAll, Bool.or_eq_false_iff] at h
    simp only [plainDs, Bool.and_eq_true]
    exact ⟨plain_of h.1, plain_ofs h.2⟩
end
theorem Cn.g {m b : Nat} {d : D} (h : Cn m b d) : Gx m b d := ⟨h.sh, plain_of h.hd, h.dp, h.ls, h.bk⟩
theorem Cn.mono {m b m' b' : Nat} {d : D} (h : Cn m b d) (hm : m ≤ m') (hb : b ≤ b') : Cn m' b' d := ⟨h.sh, h.hd, h.nl, Nat.le_trans h.dp hm, h.ls, Nat.le_trans h.bk hb⟩
theorem Gx.mono {m b m' b' : Nat} {d : D} (h : Gx m b d) (hm : m ≤ m') (hb : b ≤ b') : Gx m' b' d := ⟨h.sh, h.pd, Nat.le_trans h.dp hm, h.ls, Nat.le_trans h.bk hb⟩
theorem cn_int {i : Int} (h : i.natAbs < 10 ^ 30) : Cn 0 0 (.int i) := by
  refine ⟨?_, rfl, rfl, Nat.le_refl _, ?_, Nat.le_refl _⟩
  · simp only [PyData.showable, decide_eq_true_eq]
    by_cases h0 : i.natAbs = 0
    · rw [h0]; decide
    · exact (Nat.log2_lt h0).mpr (Nat.lt_of_lt_of_le h (Nat.le_trans (show 10 ^ 30 ≤ 2 ^ 100 by decide) (Nat.pow_le_pow_right (by decide) (by decide))))
  · simp only [PyData.leavesShort, PyData.shown]
    refine decide_eq_true ?_
    rw [ofString_length]
    exact Nat.le_trans (int_text_length_le10 (k := 30) (by decide) h) (by decide)
theorem cn_none : Cn 0 0 (.none : D) := ⟨rfl, rfl, rfl, Nat.le_refl _, rfl, Nat.le_refl _⟩
theorem cn_bool (b : Bool) : Cn 0 0 (.bool b : D) := ⟨rfl, rfl, rfl, Nat.le_refl _, rfl, Nat.le_refl _⟩
theorem cn_str {x : Str} {b : Nat} (h : ∀ c ∈ x.cps.toList, c < 16 ^ 8) (hl : x.cps.size ≤ b) : Cn 0 b (.str x : D) :=
  ⟨rfl, rfl, rfl, Nat.le_refl _, by simpa only [PyData.leavesShort, List.all_eq_true, decide_eq_true_eq] using h, by simpa only [PyData.bulk] using hl⟩
structure CnA (m b : Nat) (ds : List D) : Prop where
  sh : PyData.showableAll ds = true
  hd : PyData.hasDictAll ds = false
  nl : noLsA ds = true
  dp : PyData.depthAll ds ≤ m
  ls : PyData.leavesShortAll 40 ds = true
  bk : PyData.bulkAll ds ≤ ds.length * (b + 1)
theorem cnA {m b : Nat} : ∀ {ds : List D}, (∀ d ∈ ds, Cn m b d) → CnA m b ds
  | [], _ => ⟨rfl, rfl, rfl, Nat.zero_le _, rfl, Nat.zero_le _⟩
  | d :: ds, h => by
    have h1 := h d List.mem_cons_self
    have h2 := cnA fun e he => h e (List.mem_cons_of_mem _ he)
    refine ⟨by simp [PyData.showableAll, h1.sh, h2.sh], by simp [PyData.hasDictAll, h1.hd, h2.hd], by simp [noLsA, h1.nl, h2.nl], ?_, by simp [PyData.leavesShortAll, h1.ls, h2.ls], ?_⟩
    · have := h1.dp; have := h2.dp
      simp only [PyData.depthAll]; omega
    · have e1 := h1.bk; have e2 := h2.bk
      simp only [PyData.bulkAll, List.length_cons, Nat.succ_mul]; omega
theorem CnA.tup {m b : Nat} {ds : List D} (h : CnA m b ds) : Cn (m + 1) (ds.length * (b + 1)) (.tuple ds) :=
  ⟨by simp [PyData.showable, h.sh], by simp [PyData.hasDict, h.hd], by simp only [noLs]; exact h.nl, by simp only [PyData.depth]; have := h.dp; omega, by simp [PyData.leavesShort, h.ls], by simp only [PyData.bulk]; exact h.bk⟩
theorem CnA.lst {m b : Nat} {ds : List D} (h : CnA m b ds) : Gx (m + 1) (ds.length * (b + 1)) (.list ds) :=
  ⟨by simp [PyData.showable, h.sh], plain_of (by simp [PyData.hasDict, h.hd]), by simp only [PyData.depth]; have := h.dp; omega, by simp [PyData.leavesShort, h.ls], by simp only [PyData.bulk]; exact h.bk⟩
structure GxA (m b : Nat) (ds : List D) : Prop where
  sh : PyData.showableAll ds = true
  pd : plainDs ds = true
  dp : PyData.depthAll ds ≤ m
  ls : PyData.leavesShortAll 40 ds = true
  bk : PyData.bulkAll ds ≤ b
theorem CnA.g {m b : Nat} {ds : List D} (h : CnA m b ds) : GxA m (ds.length * (b + 1)) ds := ⟨h.sh, plain_ofs h.hd, h.dp, h.ls, h.bk⟩
/-- one thing among such without a dict or a list -/
theorem GxA.one {m b : Nat} {r : D} (h : Gx m b r) : GxA m (b + 1) [r] := by
  refine ⟨by simp [PyData.showableAll, h.sh], by simp [plainDs, h.pd], ?_, by simp [PyData.leavesShortAll, h.ls], ?_⟩
  · simp only [PyData.depthAll]; have := h.dp; omega
  · simp only [PyData.bulkAll]; have := h.bk; omega
theorem showableAll_app : ∀ (xs ys : List D), PyData.showableAll (xs ++ ys) = (PyData.showableAll xs && PyData.showableAll ys)
  | [], ys => by simp [PyData.showableAll]
  | x :: xs, ys => by simp [PyData.showableAll, showableAll_app xs ys, Bool.and_assoc]
theorem hasDictAll_app : ∀ (xs ys : List D), PyData.hasDictAll (xs ++ ys) = (PyData.hasDictAll xs || PyData.hasDictAll ys)
  | [], ys => by simp [PyData.hasDictAll]
  | x :: xs, ys => by simp [PyData.hasDictAll, hasDictAll_app xs ys, Bool.or_assoc]
theorem noLsA_app : ∀ (xs ys : List D), noLsA (xs ++ ys) = (noLsA xs && noLsA ys)
  | [], ys => by simp [noLsA]
  | x :: xs, ys => by simp [noLsA, noLsA_app xs ys, Bool.and_assoc]
theorem plainDs_app : ∀ (xs ys : List D), plainDs (xs ++ ys) = (plainDs xs && plainDs ys)
  | [], ys => by simp [plainDs]
  | x :: xs, ys => by simp [plainDs, plainDs_app xs ys, Bool.and_assoc]
theorem depthAll_app : ∀ (xs ys : List D), PyData.depthAll (xs ++ ys) = max (PyData.depthAll xs) (PyData.depthAll ys)
  | [], ys => by simp [PyData.depthAll]
  | x :: xs, ys => by simp only [List.cons_append, PyData.depthAll, depthAll_app xs ys]; omega
theorem leavesAll_app (B : Nat) : ∀ (xs ys : List D), PyData.leavesShortAll B (xs ++ ys) = (PyData.leavesShortAll B xs && PyData.leavesShortAll B ys)
  | [], ys => by simp [PyData.leavesShortAll]
  | x :: xs, ys => by simp [PyData.leavesShortAll, leavesAll_app B xs ys, Bool.and_assoc]
theorem bulkAll_app : ∀ (xs ys : List D), PyData.bulkAll (xs ++ ys) = PyData.bulkAll xs + PyData.bulkAll ys
  | [], ys => by simp [PyData.bulkAll]
  | x :: xs, ys => by simp only [List.cons_append, PyData.bulkAll, bulkAll_app xs ys]; omega
theorem CnA.appG {m b b' : Nat} {xs ys : List D} (h : CnA m b xs) (g : GxA m b' ys) : GxA m (xs.length * (b + 1) + b') (xs ++ ys) := by
  exact ⟨by rw [showableAll_app, h.sh, g.sh]; rfl, by rw [plainDs_app, plain_ofs h.hd, g.pd]; rfl, by rw [depthAll_app]; have := h.dp; have := g.dp; omega, by rw [leavesAll_app, h.ls, g.ls]; rfl, by rw [bulkAll_app]; have := h.bk; have := g.bk; omega⟩
theorem GxA.appC {m b b' : Nat} {xs ys : List D} (g : GxA m b' xs) (h : CnA m b ys) : GxA m (b' + ys.length * (b + 1)) (xs ++ ys) := by
  exact ⟨by rw [showableAll_app, h.sh, g.sh]; rfl, by rw [plainDs_app, plain_ofs h.hd, g.pd]; rfl, by rw [depthAll_app]; have := h.dp; have := g.dp; omega, by rw [leavesAll_app, h.ls, g.ls]; rfl, by rw [bulkAll_app]; have := h.bk; have := g.bk; omega⟩
theorem GxA.tup {m b : Nat} {ds : List D} (h : GxA m b ds) : Gx (m + 1) b (.tuple ds) :=
  ⟨by simp [PyData.showable, h.sh], by simp [plainD, h.pd], by simp only [PyData.depth]; have := h.dp; omega, by simp [PyData.leavesShort, h.ls], by simp only [PyData.bulk]; exact h.bk⟩
theorem GxA.lst {m b : Nat} {ds : List D} (h : GxA m b ds) : Gx (m + 1) b (.list ds) :=
  ⟨by simp [PyData.showable, h.sh], by simp [plainD, h.pd], by simp only [PyData.depth]; have := h.dp; omega, by simp [PyData.leavesShort, h.ls], by simp only [PyData.bulk]; exact h.bk⟩
theorem GxA.app {m b b' : Nat} {xs ys : List D} (g : GxA m b xs) (h : GxA m b' ys) : GxA m (b + b') (xs ++ ys) :=
  ⟨by rw [showableAll_app, h.sh, g.sh]; rfl, by rw [plainDs_app, h.pd, g.pd]; rfl, by rw [depthAll_app]; have := h.dp; have := g.dp; omega, by rw [leavesAll_app, h.ls, g.ls]; rfl, by rw [bulkAll_app]; have := h.bk; have := g.bk; omega⟩
theorem Gx.fits {m b : Nat} {d : D} (h : Gx m b d) (hb : b ≤ 300000) : d.shown.length ≤ sizeLine :=
  Nat.le_trans (PyData.shown_le_bulk 40 (by decide) d h.ls) (by have := h.bk; unfold sizeLine; omega)
theorem Gx.show {m b : Nat} {d : D} (h : Gx m b d) (hm : m ≤ 64) (hb : b ≤ 300000) : showB d = true := by
  have z : ∀ e : D, Gx m b e → (e.showable && plainD e && decide (e.depth ≤ 64) && decide (e.shown.length ≤ sizeLine)) = true := fun e h => by
    simp only [Bool.and_eq_true, decide_eq_true_eq]
    exact ⟨⟨⟨h.sh, h.pd⟩, Nat.le_trans h.dp hm⟩, h.fits hb⟩
  cases d with
  | none => rfl
  | bool b => rfl
  | int i => have := h.sh; simpa only [PyData.showable, showB] using this
  | str x => have := h.fits hb; simpa only [PyData.shown, showB, decide_eq_true_eq] using this
  | tuple ds => exact z _ h
  | list ds => exact z _ h
  | dict ds => exact z _ h
/-- by reckoning, of a thing at hand -/
def gxB (m b : Nat) (d : D) : Bool := d.showable && plainD d && decide (d.depth ≤ m) && d.leavesShort 40 && decide (d.bulk ≤ b)
theorem gx_of {m b : Nat} {d : D} (h : gxB m b d = true) : Gx m b d := by
  unfold gxB at h
  simp only [Bool.and_eq_true, decide_eq_true_eq] at h
  obtain ⟨⟨⟨⟨h1, h2⟩, h4⟩, h5⟩, h6⟩ := h
  exact ⟨h1, h2, h4, h5, h6⟩
end Dv

set_option Elab.async false
set_option linter.all false
set_option maxRecDepth 100000
set_option maxHeartbeats 1000000
namespace Dv
open PySem PySem.Spec L2 RZ
open PyProof.Rows (envOfC)
variable [TabC]
/-! f(..) of a def whose last parameters have numbers as defaults, these left out -/
/-- such a def, here -/
structure FDf (X : L2.Cx) (x : Str) (fn : Fn) (ds : List Int) : Prop where
  ex : ∃ f fd ps, X.mg x = some (.ref f) ∧ PySem.W.keepIn X.K (.ref f) = true ∧ FnAt X.prog X.w X.K X.mg X.base X.A f fd ps (spOf (Cx.G X) fn) ∧ ∃ dvs, Vals (ds.map V.int) dvs ∧ Binds X.K fd ps dvs
section
variable {X : L2.Cx} {f : Addr} {fd : FuncData} {ps : List Str} {sp : Sp} {E : XK} {x : Str} {p pos : Pos} {e : Expr} {es : List Expr} {t : TA} {dv : List V} {dvs : List Value}
open PySem.Spec in
theorem run_atD {pins : List (Addr × Obj)} {σ : St} {H : Hp} {s : Shared} {Q : VK} {us : List Value} {vs : List V} (F : FnAt X.prog X.w X.K X.mg X.base X.A f fd ps sp) (hv : Vals dv dvs) (hb : Binds X.K fd ps dvs) (hx : Passes (L2.CX X.prog X.w) X E) (I : Inv X pins σ H s) (r : Vals vs us) (h : sp (vs ++ dv) H Q E) :
    wpAny (model X.prog X.w) X.A (call (.ref f) us) (EP X pins σ Q) X.xe s := by
  have rr := r.append hv
  have b := hb s us I.kIn (by rw [← rr.length]; exact F.len _ _ _ _ h)
  refine wpAny_call (codeAny_mono (F.run X.stack s H ⟨us, []⟩ (us ++ dvs) (vs ++ dv) Q E I.env0 b rr h) fun o s' q => ?_)
  match o, q with
  | .error e, q => exact hx pins σ H s e s' I q
  | .ok (.ret u), q => exact I.after q
theorem pe_callAtD (F : FnAt X.prog X.w X.K X.mg X.base X.A f fd ps sp) (hg : Gl X x) (hm : X.mg x = some (.ref f)) (hk : PySem.W.keepIn X.K (.ref f) = true) (hv : Vals dv dvs) (hb : Binds X.K fd ps dvs) (hx : Passes (L2.CX X.prog X.w) X E) (ha : PA X (e :: es) t)
    (hdb : (x == ("__debug__" : Str)) = false) (he : starEach (e :: es) X.env = (false, eval e X.env) :: starEach es X.env) (hpl : (backTo pos (starEach es X.env)).any (·.1) = false) : PE X (.Call (.Name x p) (e :: es) [] pos) (tCall sp dv E t) :=
  ⟨fun pins s σ H Q I h => wpAny_Call_Name_kw (ld_glob I hg hm (PySem.W.callWith_K (h₀ := X.base) I.ok.mod.kin hk (thn (ha.run pos pins s σ H _ I h) fun us s1 ⟨vs, H1, I1, r, q⟩ => ⟨I1.kIn, run_atD F hv hb hx I1 r q⟩) he hpl) hdb)⟩
end
def hkDf (x0 : Str) (fn : Fn) (n : Nat) (ds : List Int) : Hk := fun r sc ρ e => match e with
  | .Call (.Name f _) (e0 :: es) [] _ => if f = x0 ∧ fn.box = false ∧ es.length + 1 = n ∧ n + ds.length = fn.ar ∧ globB sc f = true ∧ plainName f = true ∧ (e0 :: es).all notStar = true then match evDs (r.d sc) (e0 :: es) ρ with
    | some (as, ρ1) => if as.length = n then match fn.run [] (as.map Sl.im ++ ds.map fun i => Sl.im (.int i)) with
      | some (s, []) => some (s, ρ1)
      | _ => none
      else none
    | none => none
    else none
  | _ => none
theorem reps_args {G : Ctx} {H : Hp} : ∀ {as : List D} {vs : List V}, Reps G H as vs → RArgs G H (as.map Sl.im) vs
  | [], _, h => by simpa [Reps, RArgs] using h
  | a :: as, _, h => by
    simp only [Reps] at h
    obtain ⟨w, ws, e, h1, h2⟩ := h
    exact ⟨w, ws, e, h1, reps_args h2⟩
theorem args_ints {G : Ctx} {H : Hp} : ∀ (ds : List Int), RArgs G H (ds.map fun i => Sl.im (.int i)) (ds.map V.int)
  | [] => rfl
  | d :: ds => ⟨V.int d, ds.map V.int, rfl, rep_int (G := G) (H := H) d, args_ints ds⟩
theorem args_app {G : Ctx} {H : Hp} : ∀ {as bs : List Sl} {vs ws : List V}, RArgs G H as vs → RArgs G H bs ws → RArgs G H (as ++ bs) (vs ++ ws)
  | [], _, _, _, h1, h2 => by
    have h1 : _ = [] := h1
    subst h1
    exact h2
  | a :: as, _, _, _, h1, h2 => by
    obtain ⟨w, ws, e, g1, g2⟩ := h1
    subst e
    exact ⟨w, _, rfl, g1, args_app g2 h2⟩
theorem hkDf_ok {X : L2.Cx} {sc : Scope} {x0 : Str} {fn : Fn} {n : Nat} {ds : List Int} (hsc : X.env.scope = sc) (F : FDf X x0 fn ds) (r : Evs) (he : ∀ e, PE X e (tS (Cx.G X) fun ρ => r.e sc ρ e)) (e : Expr) : PE X e (tS (Cx.G X) fun ρ => hkDf x0 fn n ds r sc ρ e) := PE.of fun σ H Q q => by
  obtain ⟨ρ, s, ρ', H0, hev, E, q⟩ := q
  dsimp only at hev
  unfold hkDf at hev
  split at hev
  · rename_i f0 pf e0 es pc
    split at hev
    · rename_i hc
      obtain ⟨rfl, hbx, hn, har, hg, hd, hs⟩ := hc
      obtain ⟨f, fd, ps, hm, hk, FA, dvs, hv, hb⟩ := F.ex
      simp only [plainName, Bool.and_eq_true, Bool.not_eq_true'] at hd
      simp only [List.all_cons, Bool.and_eq_true] at hs
      have gl : Gl X f0 := by
        unfold Gl Env.kindOf
        rw [hsc]
        exact of_decide_eq_true hg
      have hD : ∀ e, PE X e (tD (Cx.G X) fun ρ => r.d sc ρ e) := fun e => tD_of (he e)
      split at hev
      · rename_i as ρ1 h1
        split at hev
        · rename_i hlen
          split at hev
          · rename_i s' h2
            cases hev
            refine ⟨_, pe_callAtD FA gl hm hk hv hb passL (pa_of hD (e0 :: es)) hd.1 (star_of hs.1) (star_plain hs.2), ρ, as, _, H0, h1, E, fun vs H1 H01 T1 E1 r1 => ?_⟩
            show spOf _ fn (vs ++ ds.map V.int) H1 Q E0
            refine ⟨by rw [List.length_append, List.length_map, ← r1.length, hlen]; exact har, H01, E1.tb, E1.ex, ?_⟩
            rw [if_pos hbx]
            refine ⟨_, _, args_app (reps_args r1) (args_ints ds), h2, fun v H' H0' T r => ?_⟩
            obtain ⟨t1, t2, t3⟩ := after_none E1 T r
            exact q v H' H0' (T1.trans t1) t2 (t3.via T1)
          · cases hev
        · cases hev
      · cases hev
    · cases hev
  · cases hev
/-- the places of a def's text: the def's own scope by the name of a local -/
def xtD (x : Str) (x0 : Str) (fn : Fn) (n : Nat) (ds : List Int) : Xt := { b := false, hk := some (hkDf x0 fn n ds), on := fun sc => decide (sc.names.lookup x = some .local) }
/-- a def with such defaults, at its address -/
structure DefD (K : PySem.W.Frag) (x : Str) (st : Stmt) (dvs : List V) (f : Addr) : Prop where
  ex : ∃ fd, FunD K x x (defArgs st) (defBody st) (defScope st) dvs [] f fd
section
variable {P : Program} {w : World} {K : PySem.W.Frag} {mg : Str → Option Value} {base : Heap} {k : Nat} {gl : Str → Option Sl} {fns : Str → Option Fn}
/-- what calls of it want -/
structure FDfP (P : Program) (w : World) (K : PySem.W.Frag) (mg : Str → Option Value) (base : Heap) (k : Nat) (x : Str) (fn : Fn) (ds : List Int) : Prop where
  ex : ∃ f fd ps, mg x = some (.ref f) ∧ PySem.W.keepIn K (.ref f) = true ∧ FnOk P w K mg base (L2.CX P w) k f fd ps (spOf (K, mg) fn) ∧ ∃ dvs, Vals (ds.map V.int) dvs ∧ Binds K fd ps dvs
theorem FDfP.here {X : L2.Cx} {k : Nat} {x : Str} {fn : Fn} {ds : List Int} (F : FDfP X.prog X.w X.K X.mg X.base k x fn ds) (hr : Room k X.A) : FDf X x fn ds := by
  obtain ⟨f, fd, ps, a, b, c, d⟩ := F.ex
  exact ⟨f, fd, ps, a, b, .of c hr, d⟩
theorem FDfP.mono {j k : Nat} {x : Str} {fn : Fn} {ds : List Int} (F : FDfP P w K mg base j x fn ds) (h : j ≤ k) : FDfP P w K mg base k x fn ds := by
  obtain ⟨f, fd, ps, a, b, c, d⟩ := F.ex
  exact ⟨f, fd, ps, a, b, c.mono h, d⟩
/-- a def with defaults, given all its arguments or without the last ones -/
theorem MOk.nextF (M : MOk gl fns P w K mg base k) {ar : Nat} {N ps : List Str} {x : Str} {st : Stmt} {f : Addr} {ds : List Int} (D : DefD K x st (ds.map V.int) f) (hds : ds ≠ []) (S : FnScope N ps (defScope st)) (hmg : mg x = some (.ref f)) (har : ar = ps.length) (hps : ps.length ≤ N.length) (n : Nat) (hn : n + ds.length = ps.length)
    (hb : ∀ (T : Addr) (kV doc pm : Value) (an : Option Addr) (cdv ct : Value) (us its : List Value), us.length = n → its.length = (ds.map V.int).length →
      ∃ k, bindArgs (PySem.W.fnOf x x (defArgs st) (defBody st) (defScope st) (.ref T) kV doc pm an cdv ct) ⟨us, []⟩ = seqItems? (.ref T) >>= k ∧ k (some its.toArray) = pure (ps.zip (us ++ its.drop 0)))
    (hb2 : ∀ (T : Addr) (kV doc pm : Value) (an : Option Addr) (cdv ct : Value) (us its : List Value), us.length = ps.length → its.length = (ds.map V.int).length →
      ∃ k, bindArgs (PySem.W.fnOf x x (defArgs st) (defBody st) (defScope st) (.ref T) kV doc pm an cdv ct) ⟨us, []⟩ = seqItems? (.ref T) >>= k ∧ k (some its.toArray) = pure (ps.zip (us ++ its.drop (ds.map V.int).length))) :
    MOk gl (addF fns x (evFn N gl fns st false ar)) P w K mg base (k + 1) ∧ FDfP P w K mg base (k + 1) x (evFn N gl fns st false ar) ds := by
  obtain ⟨fd, F⟩ := D.ex
  have ne : ds.map V.int ≠ [] := fun z => hds (List.map_eq_nil_iff.mp z)
  have fo : FnOk P w K mg base CX0 (k + 1) f fd ps (spOf (K, mg) (evFn N gl fns st false ar)) := F.ok S (fun vs H Q E h => h.1.trans har) fun cdv A outer s H vs Q E hr h => by
    obtain ⟨t, ht, hq⟩ := body_ok _ (⟨⟨⟨rfl, S.nd, rfl, M.gl⟩, (fun h hh' => nomatch hh'), (fun z => nomatch z), rfl, hr, fun x fn h => (M.fns x fn h).here hr, M.blt, M.isi, M.tys⟩, fun _ => rfl, S.kind, PassesOwn.never⟩ :
      SOk ⟨N, gl, fns, ({ b := false } : Xt)⟩ (defScope st) k (cxOf CX0 P w K mg base N x (defScope st) f cdv A outer s H E).nox) har hps (fun bs as s bs' h _ => evFn_run0 bs as s bs' h) h
    exact ⟨t, ht.nox, hq⟩
  obtain ⟨dv0, v0, b0⟩ := F.binds1 n 0 ne (by rw [List.length_map]; exact hn) hb
  obtain ⟨dv1, v1, b1⟩ := F.binds1 ps.length (ds.map V.int).length ne (by rw [Nat.sub_self]; rfl) hb2
  rw [List.drop_length] at v1
  cases v1
  exact ⟨M.add ⟨f, fd, ps, hmg, F.kp, FnOk.toCX fo, b1⟩, ⟨f, fd, ps, hmg, F.kp, FnOk.toCX fo, dv0, v0, b0⟩⟩
/-- a def that leaves such arguments out -/
theorem fnD_ok (M : MOk gl fns P w K mg base k) {box : Bool} {ar : Nat} {N ps : List Str} {x qual y x0 : Str} {fn : Fn} {n : Nat} {ds : List Int} {st : Stmt} {f : Addr} {fd : FuncData} (FD : FDfP P w K mg base k x0 fn ds) (F : Fun K x qual st f fd) (S : FnScope N ps (defScope st)) (har : ar = ps.length) (hps : ps.length ≤ N.length) :
    FnOk P w K mg base CX0 (k + 1) f fd ps (spOf (K, mg) (evFn N gl fns st box ar (xtD y x0 fn n ds))) := F.ok S (fun vs H Q E h => h.1.trans har) fun cdv A outer s H vs Q E hr h =>
  body_ok _ (⟨⟨⟨rfl, S.nd, rfl, M.gl⟩, (fun h hh' _ r he ht e => by cases hh'; exact hkDf_ok rfl (FD.here hr) r he e), (fun z => nomatch z), rfl, hr, fun x fn h => (M.fns x fn h).here hr, M.blt, M.isi, M.tys⟩, fun _ => rfl, S.kind, PassesOwn.never⟩ :
    SOk ⟨N, gl, fns, xtD y x0 fn n ds⟩ (defScope st) k (cxOf CX0 P w K mg base N qual (defScope st) f cdv A outer s H E).nox) har hps (fun bs as s bs' h _ => evFn_run0 bs as s bs' h) h
theorem MOk.nextD (M : MOk gl fns P w K mg base k) {box : Bool} {ar : Nat} {N ps : List Str} {x y x0 : Str} {fn : Fn} {n : Nat} {ds : List Int} {st : Stmt} {f : Addr} (FD : FDfP P w K mg base k x0 fn ds) (D : DefK K x st f) (S : FnScope N ps (defScope st)) (hmg : mg x = some (.ref f)) (har : ar = ps.length) (hps : ps.length ≤ N.length)
    (hb : ∀ (kV doc pm : Value) (an : Option Addr) (cdv ct : Value) (us : List Value), us.length = ps.length → bindArgs (PySem.W.fnOf x x (defArgs st) (defBody st) (defScope st) .none kV doc pm an cdv ct) ⟨us, []⟩ = pure (ps.zip us)) :
    MOk gl (addF fns x (evFn N gl fns st box ar (xtD y x0 fn n ds))) P w K mg base (k + 1) := by
  obtain ⟨fd, F⟩ := D.fun
  exact M.add ⟨f, fd, ps, hmg, F.kp, FnOk.toCX (fnD_ok M FD F S har hps), F.binds hb⟩
end
end Dv

set_option Elab.async false
set_option linter.all false
set_option maxRecDepth 100000
set_option maxHeartbeats 1000000
namespace Dv
open PySem PySem.Spec L2 RZ
variable [TabC]
/-! len(set(x)), x a list of whole numbers, none twice -/
def hkLS : Hk := fun r sc ρ e => match e with
  | .Call (.Name f pf) [.Call (.Name g pg) [a] [] pc] [] pos => if f = "len" ∧ g = "set" ∧ globB sc "len" = true ∧ globB sc "set" = true ∧ notStar a = true then match r.d sc ρ a with
    | some (.list xs, ρ1) => match asInts xs with
      | some ns => if ns.Nodup ∧ ns.length ≤ 60 then some (.im (.int (ns.length : Nat)), ρ1) else none
      | none => none
    | _ => none
    else none
  | _ => none
theorem hkLS_ok : HkOk hkLS := ⟨fun {X sc k} K r he ht e => PE.of fun σ H Q q => by
  obtain ⟨ρ, s, ρ', H0, hev, E, q⟩ := q
  dsimp only at hev
  unfold hkLS at hev
  split at hev
  · rename_i f pf g pg a pc pos
    split at hev
    · rename_i hc
      obtain ⟨rfl, rfl, g1, g2, hs⟩ := hc
      split at hev
      · rename_i xs ρ1 h1
        split at hev
        · rename_i ns hn
          split at hev
          · rename_i hf
            cases hev
            have hx := asInts_eq hn
            subst hx
            refine ⟨_, RZ.pe_lenSetI (K.gl g1) (K.blt "len" _ rfl) (K.gl g2) K.isi.2.2.2.2 (tD_of (he a)) K.calm (star_of hs), ρ, _, ρ', H0, h1, E, fun v H1 H01 T1 E1 r1 => ?_⟩
            obtain ⟨b, vs, rfl, g3, g4⟩ := r1.lst
            rw [g4.ints] at g3
            exact ⟨b, ns, rfl, SqL.of (E1.ex _ _ g3), hf.1, by omega, q _ _ _ T1 E1 (rsl_im (rep_int _))⟩
          · cases hev
        · cases hev
      · cases hev
    · cases hev
  · cases hev⟩
/-- an evaluator of its own in the def's own text only, told by the name of a local -/
def xtN (z : Str) (h : Hk) : Xt := { b := false, hk := some h, on := fun sc => decide (sc.names.lookup z = some .local) }
section
variable {P : Program} {w : World} {K : PySem.W.Frag} {mg : Str → Option Value} {base : Heap} {k : Nat} {gl : Str → Option Sl} {fns : Str → Option Fn}
theorem MOk.nextN (M : MOk gl fns P w K mg base k) {box : Bool} {ar : Nat} {z : Str} {hk : Hk} (hh : HkOk hk) {N ps : List Str} {x : Str} {st : Stmt} {f : Addr} (D : DefK K x st f) (S : FnScope N ps (defScope st)) (hmg : mg x = some (.ref f)) (har : ar = ps.length) (hps : ps.length ≤ N.length)
    (hb : ∀ (kV doc pm : Value) (an : Option Addr) (cdv ct : Value) (us : List Value), us.length = ps.length → bindArgs (PySem.W.fnOf x x (defArgs st) (defBody st) (defScope st) .none kV doc pm an cdv ct) ⟨us, []⟩ = pure (ps.zip us)) :
    MOk gl (addF fns x (evFn N gl fns st box ar (xtN z hk))) P w K mg base (k + 1) := by
  obtain ⟨fd, F⟩ := D.fun
  have fo : FnOk P w K mg base CX0 (k + 1) f fd ps (spOf (K, mg) (evFn N gl fns st box ar (xtN z hk))) := F.ok S (fun vs H Q E h => h.1.trans har) fun cdv A outer s H vs Q E hr h =>
    body_ok _ (⟨⟨⟨rfl, S.nd, rfl, M.gl⟩, (fun h hh' _ r he ht e => by cases hh'; exact hh.ok ⟨rfl, rfl, hr, M.blt, M.isi, M.tys⟩ r he ht e), (fun z => nomatch z), rfl, hr, fun x fn h => (M.fns x fn h).here hr, M.blt, M.isi, M.tys⟩, fun _ => rfl, S.kind, PassesOwn.never⟩ :
      SOk ⟨N, gl, fns, xtN z hk⟩ (defScope st) k (cxOf CX0 P w K mg base N x (defScope st) f cdv A outer s H E).nox) har hps (fun bs as s bs' h _ => evFn_run0 bs as s bs' h) h
  exact M.add ⟨f, fd, ps, hmg, F.kp, FnOk.toCX fo, F.binds hb⟩
end
end Dv

set_option Elab.async false
set_option linter.all false
set_option maxRecDepth 100000
set_option maxHeartbeats 1600000
/-! sets of deeds: set(x) and sorted(set(x)), x a list or a tuple of rows (i, "leave", p) and (i, "wish", (p, ..)) -/
namespace DvN
open PySem PySem.Spec PySem.W PyProof.Rows L2 Dv
/-- the row as a nested key -/
def ddN : Dd → NestedKey
  | .leave h p => .tup [.num h, .text "leave", .num p]
  | .wish h ps => .tup [.num h, .text "wish", .tup (ps.map .num)]
theorem nums_inj : ∀ {xs ys : List Int}, xs.map NestedKey.num = ys.map NestedKey.num → xs = ys
  | [], [], _ => rfl
  | [], y :: ys, h => by cases h
  | x :: xs, [], h => by cases h
  | x :: xs, y :: ys, h => by
    simp only [List.map_cons, List.cons.injEq, NestedKey.num.injEq] at h
    rw [h.1, nums_inj h.2]
theorem ddN_inj {a b : Dd} (h : ddN a = ddN b) : a = b := by
  cases a with
  | leave i p =>
    cases b with
    | leave j q =>
      simp only [ddN, NestedKey.tup.injEq, List.cons.injEq, NestedKey.num.injEq, and_true, true_and] at h
      rw [h.1, h.2]
    | wish j q => simp [ddN] at h
  | wish i p =>
    cases b with
    | leave j q => simp [ddN] at h
    | wish j q =>
      simp only [ddN, NestedKey.tup.injEq, List.cons.injEq, NestedKey.num.injEq, and_true, true_and] at h
      rw [h.1, nums_inj h.2]
theorem depth_nums : ∀ ps : List Int, NestedKey.depthAll (ps.map .num) = 0
  | [] => rfl
  | p :: ps => by simp [NestedKey.depthAll, NestedKey.depth, depth_nums ps]
theorem ddN_depth (d : Dd) : (ddN d).depth ≤ 2 := by
  cases d with
  | leave h p => simp [ddN, NestedKey.depth, NestedKey.depthAll]
  | wish h ps => simp [ddN, NestedKey.depth, NestedKey.depthAll, depth_nums]
theorem beq_dd (a b : Dd) : NestedKey.beq (ddN a) (ddN b) = decide (a = b) := by
  rw [← NestedKey.decide_eq]
  exact decide_eq_decide.mpr ⟨ddN_inj, fun h => h ▸ rfl⟩
/-- such a row lies at a -/
def Is (h : Heap) (d : Dd) (a : Addr) : Prop := NestedIs h (ddN d) (.ref a)
def hsh (w : World) (d : Dd) : Int := (ddN d).hash w
theorem is_nums {h : Heap} : ∀ {ps : List Int} {vs : List Value} {as : List Addr}, ReadsAll h vs (ps.map PyData.int) as → NestedAll h (ps.map .num) vs
  | [], _, _, r => by cases r; exact .nil
  | p :: ps, _, _, r => by
    cases r with
    | cons r1 r2 =>
      cases r1 with
      | int _ t => exact .cons (.int _ t) (is_nums r2)
theorem is_of {h : Heap} {v : Value} {d : Dd} {as : List Addr} (r : Reads h v (ddD d) as) : ∃ a, v = .ref a ∧ Is h d a := by
  cases d with
  | leave i p =>
    cases r with
    | tuple h1 h2 h3 h4 =>
      generalize hv : (_ : Array Value).toList = vs at h4
      cases h4 with
      | cons r1 r2 =>
        cases r2 with
        | cons r3 r4 =>
          cases r4 with
          | cons r5 r6 =>
            cases r6
            cases r1
            cases r3
            cases r5
            exact ⟨_, rfl, .tup h1 h2 h3 (hv ▸ .cons (.int _ _) (.cons (.text _ _) (.cons (.int _ _) .nil)))⟩
  | wish i ps =>
    cases r with
    | tuple h1 h2 h3 h4 =>
      generalize hv : (_ : Array Value).toList = vs at h4
      cases h4 with
      | cons r1 r2 =>
        cases r2 with
        | cons r3 r4 =>
          cases r4 with
          | cons r5 r6 =>
            cases r6
            cases r1
            cases r3
            cases r5 with
            | tuple k1 k2 k3 k4 => exact ⟨_, rfl, .tup h1 h2 h3 (hv ▸ .cons (.int _ _) (.cons (.text _ _) (.cons (.tup k1 k2 k3 (is_nums k4)) .nil)))⟩
theorem Is.keep {h h' : Heap} {d : Dd} {a : Addr} (x : Is h d a) (k : ∀ b o, h.get? b = some o → h'.get? b = some o) : Is h' d a := NestedIs.at (fun b o _ _ e _ => k b o e) _ _ x
theorem Is.but {h h' : Heap} {d : Dd} {a b : Addr} {o : Obj} {es : Array (Int × Value)} {ep : Nat} {t : SetTable} (x : Is h d a) (ho : h.get? b = some o) (hd : o.data = .set es ep t) (hs : Heap.SameBut b h h') : Is h' d a :=
  NestedIs.at (fun c u vs n e f => (hs.2 c fun z => by
    subst z
    rw [ho] at e
    cases e
    rw [hd] at f
    cases f).trans e) _ _ x
theorem Is.one {h : Heap} {d d' : Dd} {a : Addr} (x : Is h d a) (y : Is h d' a) : d = d' := ddN_inj (NestedIs.inj _ _ _ x y)
section
variable {P : Program} {w : World} {A : Around} {E : Value → Shared → Prop} {s : Shared}
/-! what a search asks of the rows -/
def Cls (P : Program) (w : World) (n : Nat) (s : Shared) (v : Value) : Prop := ∀ (A : Around) (E : Value → Shared → Prop) (Q : Bool → Shared → Prop), Q false s → wpAny (model P w) A (ofAClassStatement n v) Q E s
theorem Cls.plain {n : Nat} {v : Value} (h : ofAClassStatement n v = pure false) : Cls P w n s v := fun A E Q q => by
  rw [h]; exact wpAny_pure q
theorem Cls.tuple {n : Nat} {a : Addr} {o : Obj} {vs : Array Value} {m : Nat} (ho : s.heap.get? a = some o) (hc : o.cls = .type "tuple") (hd : o.data = .seq vs m) (hq : ∀ v ∈ vs.toList, Cls P w n s v) : Cls P w (n + 1) s (.ref a) := fun A E Q h => by
  have ty : s.TypeIs (.ref a) "tuple" := ⟨o, ho, hc⟩
  unfold ofAClassStatement
  refine wpAny_bind (wpAny_typeOf ty ?_)
  dsimp only
  have e : (("tuple" : String) == "tuple") = true := by decide
  simp only [e, if_true, Bool.not_true, Bool.false_eq_true, if_false]
  try refine wpAny_bind (wpAny_pure ?_)
  try simp only [Bool.not_true, Bool.false_eq_true, if_false]
  show wpAny _ _ (seqItems? (.ref a) >>= _) _ _ s
  refine wpAny_bind (wpAny_seqItems ho hd ?_)
  dsimp only
  refine wpAny_bind ?_
  show wpAny _ _ (forIn vs _ _) _ _ s
  rw [← Array.forIn_toList]
  refine wpAny_forIn_list _ (fun more r u => (r.1 = none ∧ u = s) ∧ ∀ v ∈ more, Cls P w n s v) _ (fun v more r u => ?_) (fun r u => ?_) _ _ ⟨⟨rfl, rfl⟩, hq⟩
  · rintro ⟨⟨hr, rfl⟩, all⟩
    refine wpAny_bind (all v List.mem_cons_self _ _ _ ?_)
    simp only [Bool.false_eq_true, if_false]
    exact wpAny_pure ⟨⟨rfl, rfl⟩, fun x hx => all x (List.mem_cons_of_mem _ hx)⟩
  · obtain ⟨r1, r2⟩ := r
    rintro ⟨⟨hr, rfl⟩, _⟩
    dsimp only at hr
    subst hr
    exact wpAny_pure h
mutual
theorem cls_key : ∀ (k : NestedKey) (v : Value) (n : Nat) (s : Shared), NestedIs s.heap k v → k.depth ≤ n → Cls P w n s v
  | .none, _, n, s, x, _ => by cases x; exact .plain (by cases n <;> rfl)
  | .num i, _, n, s, x, _ => by cases x <;> exact .plain (by cases n <;> rfl)
  | .text y, _, n, s, x, _ => by cases x; exact .plain (by cases n <;> rfl)
  | .tup ks, _, n, s, x, hn => by
    cases x with
    | tup hg hc hd hk =>
      simp only [NestedKey.depth] at hn
      cases n with
      | zero => omega
      | succ n => exact .tuple hg hc hd (cls_keys ks _ n s hk (by omega))
theorem cls_keys : ∀ (ks : List NestedKey) (vs : List Value) (n : Nat) (s : Shared), NestedAll s.heap ks vs → NestedKey.depthAll ks ≤ n → ∀ v ∈ vs, Cls P w n s v
  | [], _, n, s, x, _, v, hv => by cases x; cases hv
  | k :: ks, _, n, s, x, hn, v, hv => by
    cases x with
    | cons x1 x2 =>
      simp only [NestedKey.depthAll] at hn
      rcases List.mem_cons.mp hv with e | hv
      · rw [e]; exact cls_key k _ n s x1 (by omega)
      · exact cls_keys ks _ n s x2 (by omega) v hv
end
/-- whether its hash is its value's: an answer that changes nothing -/
def Byv (P : Program) (w : World) (n : Nat) (s : Shared) (v : Value) : Prop := ∀ (A : Around) (E : Value → Shared → Prop) (Q : Bool → Shared → Prop), (∀ b, Q b s) → wpAny (model P w) A (hashByValue n v) Q E s
theorem Byv.plain {n : Nat} {v : Value} {b : Bool} (h : hashByValue n v = pure b) : Byv P w n s v := fun A E Q q => by
  rw [h]; exact wpAny_pure (q b)
theorem Byv.tuple {n : Nat} {a : Addr} {o : Obj} {vs : Array Value} {m : Nat} (ho : s.heap.get? a = some o) (hc : o.cls = .type "tuple") (hd : o.data = .seq vs m) (hq : ∀ v ∈ vs.toList, Byv P w n s v) : Byv P w (n + 1) s (.ref a) := fun A E Q h => by
  have ty : s.TypeIs (.ref a) "tuple" := ⟨o, ho, hc⟩
  unfold hashByValue
  refine wpAny_bind (wpAny_specialOf ty F.slot_tuple_hash.lookup ?_)
  show wpAny _ _ (seqItems? (.ref a) >>= _) _ _ s
  refine wpAny_bind (wpAny_seqItems ho hd ?_)
  refine wpAny_bind ?_
  show wpAny _ _ (forIn vs _ _) _ _ s
  rw [← Array.forIn_toList]
  refine wpAny_forIn_list _ (fun more r u => (r.1 = none ∧ u = s) ∧ ∀ v ∈ more, Byv P w n s v) _ (fun v more r u => ?_) (fun r u => ?_) _ _ ⟨⟨rfl, rfl⟩, hq⟩
  · rintro ⟨⟨hr, rfl⟩, all⟩
    refine wpAny_bind (all v List.mem_cons_self _ _ _ fun b => ?_)
    cases b with
    | true =>
      simp only [Bool.not_true, Bool.false_eq_true, if_false]
      exact wpAny_pure ⟨⟨rfl, rfl⟩, fun x hx => all x (List.mem_cons_of_mem _ hx)⟩
    | false =>
      simp only [Bool.not_false, if_true]
      exact wpAny_pure (wpAny_pure (h false))
  · obtain ⟨r1, r2⟩ := r
    rintro ⟨⟨hr, rfl⟩, _⟩
    dsimp only at hr
    subst hr
    exact wpAny_pure (h true)
mutual
theorem byv_key : ∀ (k : NestedKey) (v : Value) (n : Nat) (s : Shared), NestedIs s.heap k v → k.depth ≤ n → Byv P w n s v
  | .none, _, n, s, x, _ => by cases x; exact .plain (b := true) (by cases n <;> rfl)
  | .num i, _, n, s, x, _ => by cases x <;> exact .plain (b := true) (by cases n <;> rfl)
  | .text y, _, n, s, x, _ => by cases x; exact .plain (b := false) (by cases n <;> rfl)
  | .tup ks, _, n, s, x, hn => by
    cases x with
    | tup hg hc hd hk =>
      simp only [NestedKey.depth] at hn
      cases n with
      | zero => omega
      | succ n => exact .tuple hg hc hd (byv_keys ks _ n s hk (by omega))
theorem byv_keys : ∀ (ks : List NestedKey) (vs : List Value) (n : Nat) (s : Shared), NestedAll s.heap ks vs → NestedKey.depthAll ks ≤ n → ∀ v ∈ vs, Byv P w n s v
  | [], _, n, s, x, _, v, hv => by cases x; cases hv
  | k :: ks, _, n, s, x, hn, v, hv => by
    cases x with
    | cons x1 x2 =>
      simp only [NestedKey.depthAll] at hn
      rcases List.mem_cons.mp hv with e | hv
      · rw [e]; exact byv_key k _ n s x1 (by omega)
      · exact byv_keys ks _ n s x2 (by omega) v hv
end
theorem Is.cls {d : Dd} {a : Addr} (x : Is s.heap d a) : Cls P w 8 s (.ref a) := cls_key _ _ 8 s x (Nat.le_trans (ddN_depth d) (by decide))
theorem Is.byv {d : Dd} {a : Addr} (x : Is s.heap d a) : Byv P w 8 s (.ref a) := byv_key _ _ 8 s x (Nat.le_trans (ddN_depth d) (by decide))
theorem Is.quiet {d : Dd} {a : Addr} (x : Is s.heap d a) : QuietAt P w 8 s (.ref a) := quiet_key _ _ 8 s x (Nat.le_trans (ddN_depth d) (by decide))
theorem Is.eq {d d' : Dd} {a b : Addr} (x : Is s.heap d a) (y : Is s.heap d' b) (hu : A.units + 8 < cLine) {Q : Bool → Shared → Prop} (h : Q (decide (d = d')) s) : wpAny (model P w) A (eqBool (.ref a) (.ref b)) Q E s := by
  have := ddN_depth d
  refine eqAt_key _ _ A s _ _ x y (by have := Nat.min_le_left (ddN d).depth (ddN d').depth; omega) P w E Q ?_
  rw [beq_dd]; exact h
/-- a search among such rows shows nothing -/
theorem unseen {d : Dd} {b : Addr} {Q : Bool → Shared → Prop} (x : Is s.heap d b) {ys : List Value} (hy : ∀ y ∈ ys, ∃ d' c, y = Value.ref c ∧ Is s.heap d' c) (h : Q false s) : wpAny (model P w) A (searchCouldBeSeen (.ref b) ys) Q E s := by
  unfold searchCouldBeSeen
  refine wpAny_bind ?_
  refine wpAny_forIn_list _ (fun more r u => (r.1 = none ∧ u = s) ∧ ∀ y ∈ more, ∃ d' c, y = Value.ref c ∧ Is s.heap d' c) _ (fun v more r u => ?_) (fun r u => ?_) _ _ ⟨⟨rfl, rfl⟩, hy⟩
  · rintro ⟨⟨hr, rfl⟩, all⟩
    obtain ⟨d', c, rfl, hc⟩ := all v List.mem_cons_self
    have next : ∀ y ∈ more, ∃ d' c, y = Value.ref c ∧ Is u.heap d' c := fun y hm => all y (List.mem_cons_of_mem _ hm)
    dsimp only
    by_cases hv : (b == c || (carriedByValue (.ref b) && carriedByValue (.ref c))) = true
    · exact wp_if_pos hv (wpAny_pure ⟨⟨rfl, rfl⟩, next⟩)
    · refine wp_if_neg hv (wpAny_bind (x.quiet _ _ _ ?_))
      simp only [Bool.not_true, Bool.false_eq_true, if_false]
      refine wpAny_bind (hc.quiet _ _ _ ?_)
      simp only [Bool.not_true, Bool.false_eq_true, if_false]
      refine wpAny_bind (x.cls _ _ _ ?_)
      simp only [Bool.false_eq_true, if_false]
      refine wpAny_bind (hc.cls _ _ _ ?_)
      simp only [Bool.false_eq_true, if_false]
      exact wpAny_pure ⟨⟨rfl, rfl⟩, next⟩
  · obtain ⟨r1, r2⟩ := r
    rintro ⟨⟨hr, rfl⟩, _⟩
    dsimp only at hr
    subst hr
    exact wpAny_pure h
end
end DvN

set_option Elab.async false
set_option linter.all false
set_option maxRecDepth 100000
set_option maxHeartbeats 3200000
namespace DvN
open PySem PySem.Spec PySem.W PyProof.Rows L2 Dv
abbrev Rw := List (Addr × Dd)
def ent (w : World) (L : Rw) : List (Int × Value) := L.map fun q => (hsh w q.2, Value.ref q.1)
/-- a set of such rows, the rows with their places in the table's order -/
structure SetD (w : World) (h : Heap) (a : Addr) (L : Rw) (es : Array (Int × Value)) (ep : Nat) (t : SetTable) : Prop where
  obj : ∃ o, h.get? a = some o ∧ o.ExactSet ∧ o.data = .set es ep t
  row : es.toList = ent w L
  tab : TabOk t (L.map fun q => hsh w q.2)
  nd : (L.map (·.2)).Nodup
  is : ∀ q ∈ L, Is h q.2 q.1
  led : w.params.followText "set-order" = true ∨ t.led = true
  wide : L.length * 5 < t.mask * 3
  few : L.length < 64
abbrev wy (w : World) (m : Nat) (d : Dd) (c : Nat) : Nat := way m (hsh w d) c
abbrev st0 (w : World) (m : Nat) (d : Dd) : SetTable.Probe := runAt m (SetTable.bits (hsh w d) % (m + 1)) (SetTable.bits (hsh w d))
section
variable {P : Program} {w : World} {A : Around} {E : Value → Shared → Prop} {s : Shared} {a : Addr} {L : Rw} {es : Array (Int × Value)} {ep : Nat} {t : SetTable}
theorem ent_len {L : Rw} {es : Array (Int × Value)} (h : es.toList = ent w L) : es.size = L.length := by
  rw [← Array.length_toList, h]
  unfold ent
  exact List.length_map ..
theorem fits_of {n : Nat} (h1 : t.place.size = n) (h2 : t.dummies = #[]) (h3 : n ≤ t.mask) : t.fits n = true := by
  unfold SetTable.fits SetTable.fill
  rw [h2, Bool.and_eq_true, beq_iff_eq, decide_eq_true_eq]
  exact ⟨h1, by show t.place.size + 0 ≤ t.mask; omega⟩
theorem SetD.size (R : SetD w s.heap a L es ep t) : es.size = L.length := ent_len R.row
theorem SetD.fits (R : SetD w s.heap a L es ep t) : t.fits es.size = true := by
  have h1 := R.tab.sz
  rw [List.length_map] at h1
  have h2 := R.size
  have h3 := R.wide
  exact fits_of (by omega) R.tab.dm (by omega)
theorem SetD.at (R : SetD w s.heap a L es ep t) {i : Nat} {q : Addr × Dd} (h : L[i]? = some q) : es[i]? = some (hsh w q.2, Value.ref q.1) := by
  rw [← Array.getElem?_toList, R.row]
  unfold ent
  rw [List.getElem?_map, h]; rfl
theorem SetD.odd (R : SetD w s.heap a L es ep t) : ¬ t.gaveWay = true := by
  unfold SetTable.gaveWay
  rw [mask_odd R.tab.mok]
  decide
theorem nth_calm (m : Nat) : ∀ (n : Nat) (p : SetTable.Probe), p.dummy = none → (nth m p n).dummy = none
  | 0, _, h => h
  | n + 1, p, h => nth_calm m n (adv m p) (by unfold adv; split <;> exact h)
/-- the search, from the c-th step of its way on -/
theorem look (R : SetD w s.heap a L es ep t) {x : Addr} {d : Dd} (hx : Is s.heap d x) (hu : A.units + 8 < cLine) {m : Nat} (m1 : m < 10 * SetTable.turns t.mask) (m2 : wy w t.mask d m ∉ t.place.toList) (m3 : ∀ c, c < m → wy w t.mask d c ∈ t.place.toList)
    {Q : SetFound → Shared → Prop} (yes : d ∈ L.map (·.2) → Q (.there none) s) (no : d ∉ L.map (·.2) → Q (.free (wy w t.mask d m) false) s) :
    ∀ (f c : Nat) (sd : Option SetTable.Probe), sd.getD (t.probeStart (hsh w d)) = nth t.mask (st0 w t.mask d) c → c ≤ m → m - c < f → (∀ (i : Nat) q, L[i]? = some q → q.2 = d → ∃ c', c ≤ c' ∧ c' < m ∧ t.place.toList[i]? = some (wy w t.mask d c')) →
      wpAny (model P w) A (setSearchFrom a (.ref x) (hsh w d) true f sd) Q E s
  | 0, c, sd, _, _, hf, _ => absurd hf (Nat.not_lt_zero _)
  | f + 1, c, sd, hsd, hc, hf, ahead => by
    obtain ⟨o, ho, hex, hd⟩ := R.obj
    rw [setSearchFrom_succ]
    refine wpAny_bind (wpAny_setState_of ho hd R.fits ?_)
    dsimp only
    refine wp_if_neg R.odd ?_
    try refine wpAny_bind (wpAny_pure ?_)
    have sh : ∀ q, nth t.mask (nth t.mask (st0 w t.mask d) c) q = nth t.mask (st0 w t.mask d) (c + q) := fun q => (nth_add t.mask c _ q).symm
    have shj : ∀ q, (nth t.mask (nth t.mask (st0 w t.mask d) c) q).j = wy w t.mask d (c + q) := fun q => congrArg SetTable.Probe.j (sh q)
    have G := go_spec t R.tab.ris R.tab.dm (fun i => (es[i]?.map (·.1)).getD 0) (hsh w d) (10 * SetTable.turns t.mask) (m - c) _ (nth_calm t.mask c (st0 w t.mask d) rfl) (by omega) (fun q hq => by rw [shj]; exact m3 _ (by omega)) (by rw [shj, show c + (m - c) = m by omega]; exact m2)
    have hashed : ∀ (i : Nat) q, L[i]? = some q → (es[i]?.map (·.1)).getD 0 = hsh w q.2 := fun i q hq => by rw [R.at hq]; rfl
    rcases G with ⟨q, i, hq, hi, _, before, hpr⟩ | ⟨before, hpr⟩
    · have met : t.probe (fun i => (es[i]?.map (·.1)).getD 0) (hsh w d) (sd.getD (t.probeStart (hsh w d))) = some (.candidate (wy w t.mask d (c + q)) i (nth t.mask (st0 w t.mask d) (c + (q + 1)))) := by
        rw [hsd, ← shj, ← sh]
        exact hpr
      rw [met]
      dsimp only
      rw [shj] at hi
      obtain ⟨p, hp⟩ : ∃ p, L[i]? = some p := by
        have l1 : i < t.place.toList.length := (List.getElem?_eq_some_iff.mp hi).1
        have l2 := R.tab.sz
        rw [List.length_map] at l2
        rw [Array.length_toList] at l1
        exact ⟨_, List.getElem?_eq_getElem (by omega)⟩
      have pL : p ∈ L := List.mem_of_getElem? hp
      have live : t.slot (wy w t.mask d (c + q)) = .live i := slot_live R.tab.ris hi
      have onward : wpAny (model P w) A (searchRest a (.ref x) (hsh w d) true f es t (wy w t.mask d (c + q)) i (nth t.mask (st0 w t.mask d) (c + (q + 1)))) Q E s := by
        unfold searchRest
        rw [R.at hp]
        dsimp only
        refine wpAny_bind (wpAny_holding ((R.is p pL).eq hx hu ?_))
        refine wpAny_bind (wpAny_setState_of ho hd R.fits ?_)
        dsimp only
        by_cases same : p.2 = d
        · exact wp_if_pos (by simp [same]) (wpAny_pure (yes (List.mem_map.mpr ⟨p, pL, same⟩)))
        · refine wp_if_neg (by simp [same]) ?_
          try refine wpAny_bind (wpAny_pure ?_)
          rw [sameMem]
          dsimp only
          simp only [if_true, live, R.at hp]
          refine wpAny_bind (wpAny_isSame_ref_self (wpAny_bind (wpAny_pure ?_)))
          simp only [if_true]
          refine wp_if_neg (by simp [same]) ?_
          refine look R hx hu m1 m2 m3 yes no f (c + (q + 1)) _ rfl (by omega) (by omega) fun i0 p0 h0 k0 => ?_
          obtain ⟨c', a1, a2, a3⟩ := ahead i0 p0 h0 k0
          refine ⟨c', ?_, a2, a3⟩
          by_cases z : c' < c + q
          · exfalso
            refine before (c' - c) i0 (by omega) (by rw [shj, show c + (c' - c) = c' by omega]; exact a3) ?_
            exact (hashed i0 p0 h0).trans (congrArg (hsh w) k0)
          · by_cases y : c' = c + q
            · exfalso
              subst y
              have s0 := slot_live R.tab.ris a3
              rw [live] at s0
              injection s0 with s0
              subst s0
              rw [hp] at h0
              cases h0
              exact same k0
            · omega
      by_cases hl : t.led = true
      · refine wp_if_neg (by simp [hl]) ?_
        try refine wpAny_bind (wpAny_pure ?_)
        exact onward
      · refine wp_if_pos (by simp [hl]) ?_
        refine wpAny_bind (unseen hx (fun y hy => ?_) ?_)
        · obtain ⟨e, he, ee⟩ := List.mem_map.mp hy
          have he' : e ∈ es ∧ e.1 = hsh w d := by simpa using he
          have in' : e ∈ es.toList := by simpa using he'.1
          rw [R.row] at in'
          obtain ⟨z, hz, e2⟩ := List.mem_map.mp in'
          exact ⟨z.2, z.1, by rw [← ee, ← e2], R.is z hz⟩
        · refine wp_if_neg (by decide) ?_
          try refine wpAny_bind (wpAny_pure ?_)
          exact onward
    · have met : t.probe (fun i => (es[i]?.map (·.1)).getD 0) (hsh w d) (sd.getD (t.probeStart (hsh w d))) = some (.empty (wy w t.mask d m) none) := by
        have e2 := shj (m - c)
        rw [show c + (m - c) = m by omega] at e2
        rw [hsd, ← e2]
        exact hpr
      rw [met]
      dsimp only
      refine wpAny_pure (no fun hm => ?_)
      obtain ⟨p0, h0, k0⟩ := List.mem_map.mp hm
      obtain ⟨i0, g0, e0⟩ := List.getElem_of_mem h0
      have at0 : L[i0]? = some p0 := by rw [List.getElem?_eq_getElem g0, e0]
      obtain ⟨c', a1, a2, a3⟩ := ahead i0 p0 at0 k0
      refine before (c' - c) i0 (by omega) (by rw [shj, show c + (c' - c) = c' by omega]; exact a3) ?_
      exact (hashed i0 p0 at0).trans (congrArg (hsh w) k0)
theorem looked (R : SetD w s.heap a L es ep t) {x : Addr} {d : Dd} (hx : Is s.heap d x) (hu : A.units + 8 < cLine) {Q : SetFound → Shared → Prop} (yes : d ∈ L.map (·.2) → Q (.there none) s)
    (no : ∀ m, d ∉ L.map (·.2) → wy w t.mask d m ∉ t.place.toList → (∀ c, c < m → wy w t.mask d c ∈ t.place.toList) → Q (.free (wy w t.mask d m) false) s) : wpAny (model P w) A (setSearch a (.ref x) (hsh w d) true) Q E s := by
  have wide := R.wide
  obtain ⟨m, m1, m2, m3⟩ := R.tab.first (by rw [List.length_map]; omega) (hsh w d)
  have small : m < 100000 := by
    have : 10 * SetTable.turns t.mask ≤ 1420 := by
      unfold SetTable.turns
      rcases R.tab.mok with e | e | e <;> omega
    omega
  unfold setSearch
  refine look R hx hu m1 m2 m3 yes (fun hn => no m hn m2 m3) 100000 0 none rfl (Nat.zero_le _) (by omega) fun i q hq hk => ?_
  have hi : (L.map fun q => hsh w q.2)[i]? = some (hsh w d) := by rw [List.getElem?_map, hq, ← hk]; rfl
  have il : i < t.place.toList.length := by
    have h1 : i < L.length := (List.getElem?_eq_some_iff.mp hq).1
    have h2 := R.tab.sz
    rw [List.length_map] at h2
    rw [Array.length_toList]
    omega
  have hj := List.getElem?_eq_getElem il
  obtain ⟨c, hc, e⟩ := R.tab.before m2 hi hj
  exact ⟨c, Nat.zero_le _, hc, by rw [hj]; exact congrArg some e.symm⟩
theorem ent_put (L : Rw) (p : Nat) (x : Addr × Dd) : ent w (L.take p ++ x :: L.drop p) = (ent w L).take p ++ (hsh w x.2, Value.ref x.1) :: (ent w L).drop p := by
  unfold ent
  rw [List.map_append, List.map_cons, List.map_take, List.map_drop]
/-- the entries in another order -/
theorem ent_order (L : Rw) (es : Array (Int × Value)) (ord : Array Nat) (hr : es.toList = ent w L) (hp : ord.toList.Perm (List.range L.length)) :
    ∃ L2, (ord.filterMap (es[·]?)).toList = ent w L2 ∧ L2.Perm L ∧ (L2.map fun q => hsh w q.2) = ord.toList.map fun i => (es.map (·.1)).getD i 0 := by
  have hz := ent_len hr
  have got : ∀ (i : Nat) (q : Addr × Dd), L[i]? = some q → es[i]? = some (hsh w q.2, Value.ref q.1) := fun i q h => by
    rw [← Array.getElem?_toList, hr]
    unfold ent
    rw [List.getElem?_map, h]; rfl
  have key : ∀ l : List Nat, (∀ i ∈ l, i < L.length) → l.filterMap (fun i => es[i]?) = ent w (l.filterMap fun i => L[i]?) ∧ ((l.filterMap fun i => L[i]?).map fun q => hsh w q.2) = l.map fun i => (es.map (·.1)).getD i 0 := by
    intro l
    induction l with
    | nil => intro _; exact ⟨rfl, rfl⟩
    | cons i l ih =>
      intro hl
      have hi := hl i List.mem_cons_self
      obtain ⟨e1, e2⟩ := ih fun j hj => hl j (List.mem_cons_of_mem _ hj)
      have hL := List.getElem?_eq_getElem hi
      have hE := got i _ hL
      rw [List.filterMap_cons_some hE, List.filterMap_cons_some hL, e1, List.map_cons, List.map_cons, e2]
      refine ⟨rfl, ?_⟩
      have e5 : (es.map (·.1))[i]? = some (hsh w (L[i]).2) := by rw [Array.getElem?_map, hE]; rfl
      simp [Array.getD_eq_getD_getElem?, e5]
  obtain ⟨e1, e2⟩ := key ord.toList fun i hi => List.mem_range.mp (hp.mem_iff.mp hi)
  refine ⟨_, by first | (rw [Array.toList_filterMap]; exact e1) | simpa using e1, ?_, e2⟩
  refine (hp.filterMap _).trans ?_
  have all : ∀ n, n ≤ L.length → (List.range n).filterMap (fun i => L[i]?) = L.take n := by
    intro n
    induction n with
    | zero => intro _; rfl
    | succ n ih =>
      intro hn
      have lt : n < L.length := hn
      rw [List.range_succ, List.filterMap_append, ih (Nat.le_of_lt lt), List.take_succ, List.getElem?_eq_getElem lt, List.filterMap_cons_some (List.getElem?_eq_getElem lt)]
      rfl
  rw [all L.length (Nat.le_refl _), List.take_length]
/-- the table is laid anew, larger -/
theorem larger {o : Obj} (ho : s.heap.get? a = some o) (hex : o.ExactSet) (hd : o.data = .set es ep t) (hr : es.toList = ent w L) (hsz : t.place.size = es.size) (hdm : t.dummies = #[]) (hfl : es.size ≤ t.mask)
    (nd : (L.map (·.2)).Nodup) (is : ∀ q ∈ L, Is s.heap q.2 q.1) (ld : w.params.followText "set-order" = true ∨ t.led = true) (few : L.length < 64) {want M : Nat}
    (hw : SetTable.sizeAbove want - 1 = M) (hM : MaskOk M) (hw2 : SetTable.sizeAbove want ≤ 128) (hn : L.length * 5 < M * 3) {Q : Unit → Shared → Prop}
    (hQ : ∀ h' L' es' ep' t', Heap.SameBut a s.heap h' → SetD w h' a L' es' ep' t' → L'.Perm L → Q () { s with heap := h' }) : wpAny (model P w) A (setRelay a want) Q E s := by
  have hz := ent_len hr
  obtain ⟨t', ord, e, hp, T, em, el, _, _⟩ := relaid_ok t (hs := es.map (·.1)) (wanted := want) hw hM (by rw [Array.size_map, hz]; omega)
  rw [Array.size_map, hz] at hp
  obtain ⟨L2, r1, r2, r3⟩ := ent_order L es ord hr hp
  rw [← r3] at T
  have z2 : (ord.filterMap (es[·]?)).size = es.size := by rw [ent_len r1, r2.length_eq, hz]
  rw [setRelay_eq]
  refine wpAny_bind (wpAny_setState_of ho hd (fits_of hsz hdm hfl) ?_)
  dsimp only
  refine wp_if_neg (by rw [sizeLine_eq]; omega) ?_
  try refine wpAny_bind (wpAny_pure ?_)
  rw [e]
  dsimp only
  refine wpAny_bind ?_
  refine wp_if_neg (by rw [z2]; simp) ?_
  try refine wpAny_bind (wpAny_pure ?_)
  refine wpAny_pure ?_
  dsimp only
  refine wpAny_storeSet_of ho hd ?_ (by rw [z2, hz, sizeLine_eq]; omega)
  have sb : Heap.SameBut a s.heap (s.heap.update a (Obj.putSet (ord.filterMap (es[·]?)) t')) := Heap.SameBut.update ..
  exact hQ _ L2 (ord.filterMap (es[·]?)) (ep + 1) t' sb ⟨⟨_, store_at ho hd, ⟨hex.1, hex.2.1, hex.2.2⟩, rfl⟩, r1, T, (r2.map (·.2)).nodup_iff.mpr nd, fun q hq => (is q (r2.mem_iff.mp hq)).but ho hd sb, by rw [el]; exact ld, by rw [r2.length_eq, em]; exact hn, by rw [r2.length_eq]; exact few⟩ r2
theorem TabOk.lift {t t' : SetTable} {hs : List Int} (T : TabOk t hs) (h1 : t'.place = t.place) (h2 : t'.dummies = t.dummies) (h3 : t'.mask = t.mask) : TabOk t' hs := by
  refine ⟨by rw [h1]; exact T.ris, by rw [h2]; exact T.dm, by rw [h1]; exact T.sz, by rw [h3]; exact T.mok, by rw [h1, h3]; exact T.bd, ?_⟩
  rw [h1, h3]; exact T.reach
/-- one more -/
theorem added (R : SetD w s.heap a L es ep t) {x : Addr} {d : Dd} (hx : Is s.heap d x) (hu : A.units + 8 < cLine) (hfew : L.length + 1 < 64) {Q : Bool → Shared → Prop}
    (hQ : ∀ b h' L' es' ep' t', Heap.SameBut a s.heap h' → SetD w h' a L' es' ep' t' → (d ∈ L.map (·.2) → L' = L) → (d ∉ L.map (·.2) → L'.Perm ((x, d) :: L)) → Q b { s with heap := h' }) :
    wpAny (model P w) A (setAddHashed a (.ref x) (hsh w d)) Q E s := by
  obtain ⟨o, ho, hex, hd⟩ := R.obj
  have hsl := R.size
  have wide := R.wide
  unfold setAddHashed
  refine wpAny_holding ?_
  rw [show (100000 : Nat) = 99999 + 1 from rfl, setAddHashedIn_succ]
  refine wpAny_bind (wpAny_setState_of ho hd R.fits ?_)
  dsimp only
  refine wp_if_neg (by simp [byScan, Value.scannable]) ?_
  try refine wpAny_bind (wpAny_pure ?_)
  refine wpAny_bind (looked R hx hu (fun hm => ?_) fun m hm m2 m3 => ?_)
  · dsimp only
    exact wpAny_pure (hQ false s.heap L es ep t (Heap.SameBut.refl a s.heap) R (fun _ => rfl) fun z => absurd hm z)
  · dsimp only
    refine wpAny_bind (wpAny_setState_of ho hd R.fits ?_)
    dsimp only
    obtain ⟨q1, q2, q3, q4, q5, q6, q7, q8, q9⟩ := R.tab.put m2 m3
    generalize hpt : t.put (way t.mask (hsh w d) m) = pt at q1 q3 q4 q5 q6 q7 q8 q9 ⊢
    obtain ⟨t1, p⟩ := pt
    dsimp only at q1 q3 q4 q5 q6 q7 q8 q9 ⊢
    subst q1
    have rows : (SetTable.insertAt es (SetTable.below t.place (way t.mask (hsh w d) m)) (hsh w d, Value.ref x)).toList = ent w (L.take (SetTable.below t.place (way t.mask (hsh w d) m)) ++ (x, d) :: L.drop (SetTable.below t.place (way t.mask (hsh w d) m))) := by
      rw [SetTable.toList_insertAt, ent_put, R.row]
    generalize hpp : SetTable.below t.place (way t.mask (hsh w d) m) = p at q2 q3 rows ⊢
    have pm := put_perm L p (x, d)
    have hlen : (L.take p ++ (x, d) :: L.drop p).length = L.length + 1 := pm.length_eq
    have hhs : (L.take p ++ (x, d) :: L.drop p).map (fun q => hsh w q.2) = (L.map fun q => hsh w q.2).take p ++ hsh w d :: (L.map fun q => hsh w q.2).drop p := by
      rw [List.map_append, List.map_cons, List.map_take, List.map_drop]
    rw [← hhs] at q3
    have nd1 : ((L.take p ++ (x, d) :: L.drop p).map (·.2)).Nodup := (pm.map (·.2)).nodup_iff.mpr (by rw [List.map_cons]; exact List.nodup_cons.mpr ⟨hm, R.nd⟩)
    have hes := ent_len rows
    rw [hlen] at hes
    generalize SetTable.insertAt es p (hsh w d, Value.ref x) = es1 at rows hes ⊢
    generalize L.take p ++ (x, d) :: L.drop p = L1 at pm hlen q3 nd1 rows
    -- the rest, whatever is known of the hashes
    have rest : ∀ t2 : SetTable, t2.place = t1.place → t2.dummies = t1.dummies → t2.mask = t1.mask → t2.led = t1.led → t2.fill = t1.fill → wpAny (model P w) A (do
        storeSet a es1 t2
        if (!false && t2.tooFull) = true then setRelay a (SetTable.grown (es.size + 1))
        return true) Q E s := fun t2 p1 p2 p3 p4 p5 => by
      have T2 := TabOk.lift q3 p1 p2 p3
      refine wpAny_bind (wpAny_storeSet_of ho hd ?_ (by rw [hes, sizeLine_eq]; omega))
      have sb : Heap.SameBut a s.heap (s.heap.update a (Obj.putSet es1 t2)) := Heap.SameBut.update ..
      have ho1 := store_at (es' := es1) (t' := t2) ho hd
      generalize s.heap.update a (Obj.putSet es1 t2) = h1 at sb ho1 ⊢
      have is1 : ∀ q ∈ L1, Is h1 q.2 q.1 := fun q hq => by
        rcases List.mem_cons.mp (pm.mem_iff.mp hq) with e | hq
        · rw [e]; exact hx.but ho hd sb
        · exact (R.is q hq).but ho hd sb
      have ld1 : w.params.followText "set-order" = true ∨ t2.led = true := by rw [p4, q5]; exact R.led
      by_cases hf : t2.tooFull = true
      · have full : (L.length + 1) * 5 ≥ t.mask * 3 := by
          have h := hf
          unfold SetTable.tooFull at h
          rw [decide_eq_true_eq, p5, q9, List.length_map, p3, q4] at h
          exact h
        have z1 : t2.place.size = es1.size := by
          have h := T2.sz
          rw [List.length_map, hlen] at h
          rw [h, hes]
        have two : (t.mask = 7 ∧ L.length = 4) ∨ (t.mask = 31 ∧ L.length = 18) := by
          rcases R.tab.mok with e | e | e <;> rw [e] at full wide
          · exact .inl ⟨e, by omega⟩
          · exact .inr ⟨e, by omega⟩
          · omega
        have go : ∀ M, SetTable.sizeAbove (SetTable.grown (L.length + 1)) - 1 = M → MaskOk M → SetTable.sizeAbove (SetTable.grown (L.length + 1)) ≤ 128 → (L.length + 1) * 5 < M * 3 →
            wpAny (model P w) A (setRelay a (SetTable.grown (L.length + 1))) (fun _ s' => wpAny (model P w) A (pure true) Q E s') E { s with heap := h1 } := fun M g1 g2 g3 g4 =>
          larger (s := { s with heap := h1 }) ho1 ⟨hex.1, hex.2.1, hex.2.2⟩ rfl rows z1 T2.dm (by rw [hes, p3, q4]; rcases two with ⟨e, e2⟩ | ⟨e, e2⟩ <;> omega) nd1 is1 ld1 (by rw [hlen]; exact hfew) g1 g2 g3 (by rw [hlen]; exact g4)
            fun h2 L2 es2 ep2 t3 sb2 R2 pm2 => wpAny_pure (hQ true h2 L2 es2 ep2 t3 (sb.trans sb2) R2 (fun z => absurd z hm) fun _ => pm2.trans pm)
        rw [hsl]
        first
          | (refine wpAny_bind ?_; refine wp_if_pos (by simp [hf]) ?_)
          | (refine wp_if_pos (by simp [hf]) ?_; refine wpAny_bind ?_)
        rcases two with ⟨_, e2⟩ | ⟨_, e2⟩
        · exact go 31 (by rw [e2, size_20]) (.inr (.inl rfl)) (by rw [e2, size_20]; decide) (by omega)
        · exact go 127 (by rw [e2, size_76]) (.inr (.inr rfl)) (by rw [e2, size_76]; decide) (by omega)
      · first
          | refine wp_if_neg (by simp [hf]) ?_
          | (refine wpAny_bind ?_; refine wp_if_neg (by simp [hf]) ?_; refine wpAny_pure ?_)
        refine wpAny_pure (hQ true h1 L1 es1 (ep + 1) t2 sb ⟨⟨_, ho1, ⟨hex.1, hex.2.1, hex.2.2⟩, rfl⟩, rows, T2, nd1, is1, ld1, ?_, by rw [hlen]; exact hfew⟩ (fun z => absurd z hm) fun _ => pm)
        have h := hf
        unfold SetTable.tooFull at h
        rw [decide_eq_true_eq, p5, q9, List.length_map] at h
        rw [hlen]
        omega
    by_cases hp1 : t1.plain = true
    · refine wp_if_pos hp1 (wpAny_bind (hx.byv _ _ _ fun b => ?_))
      cases b with
      | true => exact rest t1 rfl rfl rfl rfl rfl
      | false => exact rest { t1 with plain := false } rfl rfl rfl rfl rfl
    · refine wp_if_neg hp1 ?_
      first
        | exact rest t1 rfl rfl rfl rfl rfl
        | exact wpAny_bind (wpAny_pure (rest t1 rfl rfl rfl rfl rfl))
end
end DvN

set_option Elab.async false
set_option linter.all false
set_option maxRecDepth 100000
set_option maxHeartbeats 3200000
namespace DvN
open PySem PySem.Spec PySem.W PyProof.Rows L2 Dv
/-- what the set has of the first i rows -/
structure Has (ks : Rw) (i : Nat) (L : Rw) : Prop where
  sub : ∀ q ∈ L, q ∈ ks.take i
  all : ∀ q ∈ ks.take i, q.2 ∈ L.map (·.2)
  len : L.length ≤ i
theorem Has.nil (ks : Rw) : Has ks 0 [] := ⟨fun q h => (by cases h), fun q h => by simp at h, Nat.le_refl _⟩
theorem Has.old {ks L : Rw} {i : Nat} {x : Addr × Dd} (g : Has ks i L) (h : ks[i]? = some x) (hm : x.2 ∈ L.map (·.2)) : Has ks (i + 1) L := by
  refine ⟨fun q hq => ?_, fun q hq => ?_, Nat.le_succ_of_le g.len⟩ <;> rw [take_next h] at *
  · exact List.mem_append_left _ (g.sub q hq)
  · rcases List.mem_append.mp hq with z | z
    · exact g.all q z
    · rw [List.mem_singleton.mp z]; exact hm
theorem Has.new {ks L L' : Rw} {i : Nat} {x : Addr × Dd} (g : Has ks i L) (h : ks[i]? = some x) (pm : L'.Perm (x :: L)) : Has ks (i + 1) L' := by
  refine ⟨fun q hq => ?_, fun q hq => ?_, by rw [pm.length_eq]; exact Nat.succ_le_succ g.len⟩
  · rw [take_next h]
    rcases List.mem_cons.mp (pm.mem_iff.mp hq) with e | z
    · exact List.mem_append_right _ (List.mem_singleton.mpr e)
    · exact List.mem_append_left _ (g.sub q z)
  · rw [(pm.map (·.2)).mem_iff]
    rw [take_next h] at hq
    rcases List.mem_append.mp hq with z | z
    · exact List.mem_cons_of_mem _ (g.all q z)
    · rw [List.mem_singleton.mp z]; exact List.mem_cons_self
section
variable {P : Program} {w : World} {A : Around} {E : Value → Shared → Prop} {s : Shared}
theorem SetD.keep {h h' : Heap} {a : Addr} {L : Rw} {es : Array (Int × Value)} {ep : Nat} {t : SetTable} (R : SetD w h a L es ep t) (ha : ∀ o, h.get? a = some o → h'.get? a = some o) (hi : ∀ q ∈ L, Is h' q.2 q.1) : SetD w h' a L es ep t := by
  obtain ⟨o, ho, r⟩ := R.obj
  exact ⟨⟨o, ha o ho, r⟩, R.row, R.tab, R.nd, hi, R.led, R.wide, R.few⟩
theorem setD_new {h : Heap} {a : Addr} (ho : h.get? a = some (DvS.setO0 w)) : SetD w h a [] #[] 0 (.fresh 0 0 (!w.params.followText "set-order")) := by
  refine ⟨⟨_, ho, ⟨rfl, rfl, rfl⟩, rfl⟩, rfl, ⟨List.Pairwise.nil, rfl, rfl, .inl rfl, fun x hx => (by cases hx), fun i h j hi => (by simp at hi)⟩, List.nodup_nil, fun q hq => (nomatch hq), ?_, by show 0 * 5 < 7 * 3; decide, by show 0 < 64; decide⟩
  show _ ∨ (!w.params.followText "set-order") = true
  cases w.params.followText "set-order"
  · exact .inr rfl
  · exact .inl rfl
/-- the loop of set.update -/
theorem updated {I : Addr} {fp wr : List Addr} {G : Array GenState → Array GenState → Prop} {n : Nat} {Pv : Nat → Value → Prop} {St : Nat → Shared → Prop} {R : Result → Shared → Prop}
    (W : WalksS P w A.in1 I fp wr G n Pv St) (S : Addr) (hSf : S ∉ fp) (ks : Rw) (hn : n = ks.length) (hfew : ks.length < 64) (hval : ∀ i v, Pv i v → ∃ q, ks[i]? = some q ∧ v = .ref q.1)
    (h0 : Heap) (hk : ∀ q ∈ ks, Is h0 q.2 q.1) (hS0 : h0.get? S = none) (hw0 : ∀ b ∈ wr, h0.get? b = none) (hu : A.in1.units + 8 < cLine) :
    ∀ (k i : Nat) (s : Shared), n - i = k → i ≤ n → St i s → (∀ b o, h0.get? b = some o → s.heap.get? b = some o) → (∃ L es ep t, SetD w s.heap S L es ep t ∧ Has ks i L) →
      (∀ s' L es ep t, Moved (S :: wr) G s s' → SetD w s'.heap S L es ep t → Has ks n L → (∀ b o, h0.get? b = some o → s'.heap.get? b = some o) → R (.ok (.ret .none)) s') →
      codeAny (model P w) A (.builtin "set.update.loop" ⟨[.ref S, .ref I], []⟩) R s := by
  have nS : S ∉ wr := fun h => hSf (W.sub _ h)
  have more : ∀ b ∈ wr, b ∈ S :: wr := fun b hb => List.mem_cons_of_mem _ hb
  have moved : ∀ {s s' : Shared}, Moved wr G s s' → (∀ b o, h0.get? b = some o → s.heap.get? b = some o) → ∀ b o, h0.get? b = some o → s'.heap.get? b = some o := fun hm hkp b o e =>
    hm.heap b o (fun hb => by rw [hw0 b hb] at e; cases e) (hkp b o e)
  intro k
  induction k with
  | zero =>
    intro i s hk' hi hst hkp ⟨L, es, ep, t, hS, g⟩ hR
    obtain rfl : i = n := by omega
    refine codeAny_builtin F.entry_set_update_loop ?_
    rw [Around.under_plainId F.plain_set_update_loop _]
    refine wpAny_bind (W.done s _ _ hst fun u hm => ?_)
    show wpAny _ A.in1 (ret Value.none) _ _ u
    have kp := moved hm hkp
    exact wpAny_pure (hR u L es ep t (hm.mono more) (hS.keep (fun o e => hm.heap S o nS e) fun q hq => (hk q (List.mem_of_mem_take (g.sub q hq))).keep kp) g kp)
  | succ k ih =>
    intro i s hk' hi hst hkp ⟨L, es, ep, t, hS, g⟩ hR
    have lt : i < n := by omega
    refine codeAny_builtin F.entry_set_update_loop ?_
    rw [Around.under_plainId F.plain_set_update_loop _]
    refine wpAny_bind (W.item i s _ _ lt hst fun v u hP hst' hm => ?_)
    obtain ⟨q, hq, rfl⟩ := hval i v hP
    have kp := moved hm hkp
    have hS' : SetD w u.heap S L es ep t := hS.keep (fun o e => hm.heap S o nS e) fun r hr => (hk r (List.mem_of_mem_take (g.sub r hr))).keep kp
    have hx : Is u.heap q.2 q.1 := (hk q (List.mem_of_getElem? hq)).keep kp
    show wpAny _ A.in1 (holding [Value.ref q.1] (setAdd S (.ref q.1)) >>= _) _ _ u
    refine wpAny_bind (wpAny_holding ?_)
    unfold setAdd
    refine wpAny_holding ?_
    refine wpAny_bind (pyHash_key (ddN q.2) _ A.in1 u _ hx (by have := ddN_depth q.2; omega) ?_)
    refine added (s := { u with toks := u.toks + (ddN q.2).draws }) hS' hx hu (by have := g.len; omega) fun b h' L' es' ep' t' sb hS2 c1 c2 => ?_
    have g' : Has ks (i + 1) L' := by
      by_cases c : q.2 ∈ L.map (·.2)
      · rw [c1 c]; exact g.old hq c
      · exact g.new hq (c2 c)
    have kp2 : ∀ b o, h0.get? b = some o → h'.get? b = some o := fun b o e => (sb.2 b (fun z => by rw [z, hS0] at e; cases e)).trans (kp b o e)
    refine wpAny_pure ⟨plainId_quiet F.plain_set_update_loop _, ih (i + 1) _ (by omega) lt (W.frame _ u _ _ hst' (Nat.le_add_right _ _) fun b hb o e => ?_) kp2 ⟨L', es', ep', t', hS2, g'⟩ fun s'' L2 es2 ep2 t2 hm2 hS3 g3 kp3 => ?_⟩
    · exact (sb.2 b (fun z : b = S => hSf (z ▸ hb))).trans e
    · exact hR s'' L2 es2 ep2 t2 (Moved.trans W.gtrans ((hm.mono more).then_heap (Nat.le_add_right _ _) fun b o hb e => (sb.2 b (fun z : b = S => hb (by rw [z]; exact List.mem_cons_self))).trans e) hm2) hS3 g3 kp3
theorem free_of {h : Heap} {b : Addr} (hb : h.objs.size ≤ b) : h.get? b = none := by
  cases q : h.get? b with
  | none => rfl
  | some o => exact absurd (Nat.lt_of_lt_of_le (Heap.lt_size q) hb) (Nat.lt_irrefl _)
theorem vals_of {its : Array Value} {ks : Rw} (hit : its.toList = ks.map fun q => Value.ref q.1) (i : Nat) (v : Value) (hv : its[i]? = some v) : ∃ q, ks[i]? = some q ∧ v = .ref q.1 := by
  have q : its.toList[i]? = some v := by rw [Array.getElem?_toList, hv]
  rw [hit, List.getElem?_map] at q
  cases z : ks[i]? with
  | none => rw [z] at q; cases q
  | some p =>
    rw [z] at q
    exact ⟨p, rfl, (Option.some.inj q).symm⟩
theorem fin_of {ks : Rw} {S : Addr} {wr : List Addr} {h1 : Heap} {u3 : Shared} {L : Rw} {es : Array (Int × Value)} {ep : Nat} {t : SetTable} (mv : Moved wr (fun a b => b = a) { s with heap := h1 } u3) (r1 : SetD w u3.heap S L es ep t) (r2 : Has ks ks.length L) (r3 : ∀ b o, s.heap.get? b = some o → u3.heap.get? b = some o) :
    ∃ h' tk L es ep t, u3 = { s with heap := h', toks := tk } ∧ SetD w h' S L es ep t ∧ Has ks ks.length L ∧ ∀ a o, s.heap.get? a = some o → h'.get? a = some o := by
  obtain ⟨h', gs, dr, tk, osy⟩ := u3
  have m1 : gs = s.gens := mv.gens
  have m2 : dr = s.drawn := mv.drawn
  have m3 : osy = s.os := mv.os
  subst m1 m2 m3
  exact ⟨h', tk, L, es, ep, t, rfl, r1, r2, r3⟩
theorem u3_of (hu : A.units + 16 < cLine) : A.in1.in1.in1.units + 8 < cLine := by
  show A.units + 1 + 1 + 1 + 8 < cLine
  omega
/-- set(x) -/
theorem called {l : Addr} {its : Array Value} (ks : Rw) {Q : Value → Shared → Prop} (hh : A.handled = none) {T : String} (hT : T = "list" ∨ T = "tuple") (hl : ∃ o, s.heap.get? l = some o ∧ o.cls = .type T ∧ ∃ n, o.data = .seq its n) (f1 : isSubtype (.type T) (.type "set") = pure false) (f2 : isSubtype (.type T) (.type "frozenset") = pure false) (f3 : (Value.type T == Value.type "dict") = false) (hit : its.toList = ks.map fun q => Value.ref q.1)
    (hk : ∀ q ∈ ks, Is s.heap q.2 q.1) (hfew : ks.length < 64) (hu : A.units + 16 < cLine)
    (h : ∀ (h' : Heap) (tk : Nat) L es ep t, SetD w h' s.heap.objs.size L es ep t → Has ks ks.length L → (∀ b o, s.heap.get? b = some o → h'.get? b = some o) → Q (.ref s.heap.objs.size) { s with heap := h', toks := tk }) :
    wpAny (model P w) A (call (.type "set") [.ref l]) Q E s := by
  have size : its.size = ks.length := by rw [← Array.length_toList, hit, List.length_map]
  obtain ⟨k0, k1, k2⟩ := F.called_set.mro
  have k3 := F.called_set.made
  have k4 := F.called_set.sub
  refine wpAny_call (codeAny_of_tree ?_)
  show wpAny (model P w) _ (callAny (.type "set") ⟨[.ref l], []⟩) _ _ s
  refine wpAny_pure ⟨Code.quiet_builtin _ (by decide +kernel), codeAny_builtin F.entry_type_call ?_⟩
  rw [Around.under_plain (weight_type_call_type "set" ([.ref l] : List Value) []) rfl]
  have k5 := F.called_set.notType
  have k6 := F.called_set.canCreate
  have k7 := F.typeCall_set_1 (.ref l)
  repeat (any_goals (first | assumption | wp_step))
  let o0 : Obj := DvS.setO0 w
  refine codeAny_mono (code_set_led1 (.ref l) (E := E) (Q₁ := fun v u => v = .ref s.heap.objs.size ∧ u = { s with heap := s.heap.push (DvS.setO0 w) }) ⟨rfl, rfl⟩) fun r u hr => ?_
  match r, hr with
  | .error e, hr => exact hr
  | .ok (.ret v), hr =>
    obtain ⟨rfl, rfl⟩ := hr
    have g0 : (s.heap.push (DvS.setO0 w)).get? s.heap.objs.size = some (DvS.setO0 w) := Heap.get?_push_size _ rfl
    have g1 : Shared.TypeIs { s with heap := s.heap.push (DvS.setO0 w) } (.ref s.heap.objs.size) "set" := ⟨_, g0, rfl⟩
    have k8 := F.called_set.init.lookup
    have k9 := F.called_set.init.bind (.ref s.heap.objs.size)
    repeat (any_goals (first | assumption | wp_step))
    refine codeAny_mono (codeAny_call_builtin (R := wants (fun v u2 => v = .none ∧ ∃ h' tk L es ep t, u2 = { s with heap := h', toks := tk } ∧ SetD w h' s.heap.objs.size L es ep t ∧ Has ks ks.length L ∧ ∀ a o, s.heap.get? a = some o → h'.get? a = some o) E)
      F.called_set.init.plain F.entry_set_init (check_set_init_1 g1 ?_)) fun r2 u2 hr2 => ?_
    · have up : (s.heap.push (DvS.setO0 w)).objs.size = s.heap.objs.size + 1 := Heap.size_push ..
      obtain ⟨⟨oc, od, ox, os0⟩, hl, e1, n, e2⟩ := hl
      have l0 : l < s.heap.objs.size := Heap.lt_size hl
      have a1 : l ≠ (s.heap.push (DvS.setO0 w)).objs.size := by rw [up]; exact Nat.ne_of_lt (Nat.lt_succ_of_lt l0)
      have a2 : s.heap.objs.size ∉ [(s.heap.push (DvS.setO0 w)).objs.size, l] := by
        rw [up]
        intro z
        rcases List.mem_cons.mp z with z | z
        · exact absurd z (Nat.ne_of_lt (Nat.lt_succ_self _))
        · exact absurd (List.mem_singleton.mp z) (Nat.ne_of_gt l0)
      simp only at e1 e2
      subst e1 e2
      have g2 : (s.heap.push (DvS.setO0 w)).get? l = some { cls := .type T, dict := od, data := .seq its n, slots := os0 } := Heap.get?_push_of_some _ hl
      unfold Builtin.«set.__init__» noKeywords Builtin.Frozenset.updateFrom
      generalize walk : pyIter = it
      wp_walk
      subst walk
      rcases hT with rfl | rfl
      · have d1 : (s.heap.push (DvS.setO0 w)).IsList l its := ⟨_, g2, rfl, n, rfl⟩
        refine wpAny_pyIter_list d1 ?_
        refine wpAny_bind (wpAny_runValue ?_)
        refine updated (Walks.toS (Walks.list (show A.in1.in1.in1.handled = none from hh) _ l a1 its)) s.heap.objs.size a2 ks size hfew (vals_of hit) s.heap hk (free_of (Nat.le_refl _)) (fun b hb => free_of (by rw [List.mem_singleton.mp hb, up]; exact Nat.le_succ _)) (u3_of hu) _ 0 _ rfl (Nat.zero_le _)
          ⟨⟨_, Heap.get?_push_size _ rfl, rfl, rfl⟩, d1.push _⟩ (fun b o e => Heap.get?_push_of_some _ (Heap.get?_push_of_some _ e)) ⟨[], #[], 0, _, setD_new (Heap.get?_push_of_some _ g0), Has.nil ks⟩ ?_
        intro u3 L es ep t mv hS g kp
        refine wpAny_pure ?_
        rw [size] at g
        exact wpAny_pure ⟨rfl, fin_of mv hS g kp⟩
      · have d1 : (s.heap.push (DvS.setO0 w)).IsTuple l its := ⟨_, g2, rfl, n, rfl⟩
        refine wpAny_pyIter_tuple d1 ?_
        refine wpAny_bind (wpAny_runValue ?_)
        refine updated (Walks.toS (Walks.tuple (show A.in1.in1.in1.handled = none from hh) _ l a1 its)) s.heap.objs.size a2 ks size hfew (vals_of hit) s.heap hk (free_of (Nat.le_refl _)) (fun b hb => free_of (by rw [List.mem_singleton.mp hb, up]; exact Nat.le_succ _)) (u3_of hu) _ 0 _ rfl (Nat.zero_le _)
          ⟨⟨_, Heap.get?_push_size _ rfl, rfl, rfl⟩, d1.push _⟩ (fun b o e => Heap.get?_push_of_some _ (Heap.get?_push_of_some _ e)) ⟨[], #[], 0, _, setD_new (Heap.get?_push_of_some _ g0), Has.nil ks⟩ ?_
        intro u3 L es ep t mv hS g kp
        refine wpAny_pure ?_
        rw [size] at g
        exact wpAny_pure ⟨rfl, fin_of mv hS g kp⟩
    · match r2, hr2 with
      | .error e, hr2 => exact hr2
      | .ok (.ret v), hr2 =>
        obtain ⟨rfl, h', tk, L, es, ep, t, rfl, z1, z2, z3⟩ := hr2
        repeat (any_goals (first | assumption | wp_step))
        exact h _ _ _ _ _ _ z1 z2 z3
/-- sorted(a set of rows) -/
theorem sorted_set {a : Addr} {L : Rw} {es : Array (Int × Value)} {ep : Nat} {t : SetTable} {Q : Value → Shared → Prop} (R : SetD w s.heap a L es ep t) (hh : A.handled = none)
    (go : ∀ (s1 : Shared) (vs : List Value), (∀ b o, s.heap.get? b = some o → s1.heap.get? b = some o) → s.heap.objs.size ≤ s1.heap.objs.size → s1.gens = s.gens → s1.os = s.os → vs.Perm (L.map fun q => Value.ref q.1) → vs.length < 64 →
      ∃ κ, SortsAt P w A.in1.in1 { s1 with heap := sortingHeap (s1.heap.push (seqObj "list" vs.toArray 0)) s1.heap.objs.size vs } κ vs ∧ Q (.ref s1.heap.objs.size) { s1 with heap := sortedHeap (s1.heap.push (seqObj "list" vs.toArray 0)) s1.heap.objs.size vs (sortVals κ false vs vs).toArray }) :
    wpAny (model P w) A (call (.builtin "sorted") [.ref a]) Q E s := by
  obtain ⟨o, ho, hex, hd⟩ := R.obj
  have hsz := R.size
  have few := R.few
  refine Calls.call_function_entry kind_sorted plain_sorted entry_sorted (args_sorted1 _) ?_
  unfold Builtin.«sorted»
  refine wpAny_bind (m := checkCount "sorted" 1 1 _) (wpAny_pure ?_)
  refine wpAny_bind (collect_set (A := A.in1) hh ⟨o, ho, hex.1, hd⟩ R.fits (by unfold scanBound; omega) R.tab.ris R.led fun s1 vs k1 hz g1 o1 pm => ?_)
  have e1 : es.toList.map (·.2) = L.map fun q => Value.ref q.1 := by
    rw [R.row]
    unfold ent
    rw [List.map_map]; rfl
  rw [e1] at pm
  have hvl : vs.length < 64 := by rw [pm.length_eq, List.length_map]; exact few
  obtain ⟨κ, S, q⟩ := go s1 vs k1 hz g1 o1 pm hvl
  refine wpAny_bind (wpAny_newList ?_ (by rw [sizeLine_eq]; omega))
  have hoL : (s1.heap.push (seqObj "list" vs.toArray 0)).get? s1.heap.objs.size = some (seqObj "list" vs.toArray 0) := Heap.get?_push_size _ rfl
  exact wpAny_bind (wpAny_holding (wpAny_call_entry slot_list_sort ⟨_, hoL, rfl⟩ entry_list_sort (list_sort_vals (s := { s1 with heap := s1.heap.push (seqObj "list" vs.toArray 0) }) hoL S (by rw [sizeLine_eq]; omega) ⟨_, rfl, wpAny_pure ⟨_, rfl, q⟩⟩) (args_list_sort _)))
end
end DvN

set_option Elab.async false
set_option linter.all false
set_option maxRecDepth 100000
set_option maxHeartbeats 1600000
namespace DvN
open PySem PySem.Spec PySem.W PyProof.Rows L2 Dv
structure SetD0 (w : World) (h : Heap) (a : Addr) (L : Rw) : Prop where
  ex : ∃ (es : Array (Int × Value)) (ep : Nat) (t : SetTable), (∃ o, h.get? a = some o ∧ o.ExactSet ∧ o.data = .set es ep t) ∧ es.toList = ent w L ∧ TabOk t (L.map fun q => hsh w q.2) ∧ (L.map (·.2)).Nodup ∧
    (w.params.followText "set-order" = true ∨ t.led = true) ∧ L.length * 5 < t.mask * 3 ∧ L.length < 64
def SetDO (w : World) (a : Addr) (L : Rw) : HO := .ext fun h => SetD0 w h a L
theorem SetD.d0 {w : World} {h : Heap} {a : Addr} {L : Rw} {es : Array (Int × Value)} {ep : Nat} {t : SetTable} (R : SetD w h a L es ep t) : SetD0 w h a L := ⟨es, ep, t, R.obj, R.row, R.tab, R.nd, R.led, R.wide, R.few⟩
theorem SetD0.full {w : World} {h : Heap} {a : Addr} {L : Rw} (R : SetD0 w h a L) (hi : ∀ q ∈ L, Is h q.2 q.1) : ∃ es ep t, SetD w h a L es ep t := by
  obtain ⟨es, ep, t, r1, r2, r3, r4, r5, r6, r7⟩ := R.ex
  exact ⟨es, ep, t, r1, r2, r3, r4, hi, r5, r6, r7⟩
theorem setDO_new {P : Program} {w : World} {H : Hp} {h : Heap} {a : Addr} {L : Rw} (R : SetD0 w h a L) : ObjOk P w H h a (SetDO w a L) := by
  have ⟨es, ep, t, ⟨o, ho, r⟩, q⟩ := R.ex
  refine ⟨R, ⟨o, ho⟩, fun h1 h2 p k => ?_⟩
  have ⟨es', ep', t', ⟨o', ho', r'⟩, q'⟩ := SetD0.ex p
  exact ⟨es', ep', t', ⟨o', k o' ho', r'⟩, q'⟩
theorem refs_of : ∀ {ks : Rw} {us : List Value}, Vals (ks.map fun q => V.ref q.1) us → us = ks.map fun q => Value.ref q.1
  | [], _, .nil => rfl
  | q :: ks, _, .cons r t => by
    cases r
    rw [refs_of t]; rfl
/-- set(x) -/
def rSetD (K : PySem.W.Frag) (w : World) : List V → Hp → VK → Prop := fun vs H Q => ∃ (l : Addr) (ks : Rw), vs = [V.ref l] ∧ (SqL K H l (ks.map fun q => V.ref q.1) ∨ SqT K H l (ks.map fun q => V.ref q.1)) ∧ (∀ q ∈ ks, Dp K H (.ref q.1) (ddD q.2)) ∧ ks.length < 64 ∧
  ∀ (p : Addr) (L : Rw), H p = none → (∀ q ∈ L, q ∈ ks) → (∀ q ∈ ks, q.2 ∈ L.map (·.2)) → (L.map (·.2)).Nodup → Q (.ref p) (upd H p (SetDO w p L))
theorem is_at {X : L2.Cx} {pins : List (Addr × Obj)} {σ : L2.St} {H : Hp} {s : Shared} (I : L2.Inv X pins σ H s) {d : Dd} {a : Addr} (h : Dp X.K H (.ref a) (ddD d)) : Is s.heap d a := by
  obtain ⟨as, r⟩ := Dp.reads I (ddD d) (.ref a) (.ref a) h rfl
  obtain ⟨b, e, x⟩ := is_of r
  cases e
  exact x
theorem cr_setD {X : L2.Cx} (hc : X.calm = true) (hu : X.A.units + 64 < cLine) : CallR X (.type "set") (rSetD X.K X.w) := by
  intro pins s σ H vs us Q I r h
  obtain ⟨l, ks, rfl, hs, hk, hf, q⟩ := h
  rw [Vals.ref1 r]
  have fin : ∀ (h' : Heap) (tk : Nat) L es ep t, SetD X.w h' s.heap.objs.size L es ep t → Has ks ks.length L → (∀ b o, s.heap.get? b = some o → h'.get? b = some o) → EP X pins σ Q (.ref s.heap.objs.size) { s with heap := h', toks := tk } := fun h' tk L es ep t R g kp =>
    ⟨.ref s.heap.objs.size, upd H s.heap.objs.size (SetDO X.w s.heap.objs.size L), I.laid (t' := tk) kp (Nat.le_refl _) (setDO_new R.d0), rfl, q _ L (I.hok.fresh (Nat.le_refl _)) (fun p hp => List.mem_of_mem_take (g.sub p hp)) (fun p hp => g.all p (by rw [List.take_length]; exact hp)) R.nd⟩
  rcases hs with hs | hs
  · obtain ⟨its, rv, pl, _⟩ := I.list hs
    obtain ⟨o, ho, hcl, n, hd⟩ := pl.isList
    exact called (P := X.prog) (w := X.w) ks (I.ok.hd hc) (T := "list") (.inl rfl) ⟨o, ho, hcl, n, hd⟩ F.sub_list_set F.sub_list_frozenset (by decide) (by simpa using refs_of rv) (fun p hp => is_at I (hk p hp)) hf (by omega) fin
  · obtain ⟨its, rv, pl, _⟩ := I.tuple hs
    obtain ⟨o, ho, hcl, n, hd⟩ := pl
    exact called (P := X.prog) (w := X.w) ks (I.ok.hd hc) (T := "tuple") (.inr rfl) ⟨o, ho, hcl, n, hd⟩ F.sub_tuple_set F.sub_tuple_frozenset (by decide) (by simpa using refs_of rv) (fun p hp => is_at I (hk p hp)) hf (by omega) fin
/-- sorted(set) -/
def rSortedD (K : PySem.W.Frag) (w : World) : List V → Hp → VK → Prop := fun vs H Q => ∃ (a : Addr) (L : Rw), vs = [V.ref a] ∧ H a = some (SetDO w a L) ∧ (∀ q ∈ L, Dp K H (.ref q.1) (ddD q.2)) ∧ (L.map (·.2)).Nodup ∧
  ∀ (bs : List Dd) (ws' : List V) (p : Addr), bs.Perm (L.map (·.2)) → EachIs (fun v d => ∃ q ∈ L, v = V.ref q.1 ∧ d = q.2) ws' (dsort bs) → H p = none → Q (.ref p) (upd H p (.lst ws'))
theorem each_refs : ∀ {L L1 : Rw}, (∀ q ∈ L1, q ∈ L) → EachIs (fun v d => ∃ q ∈ L, v = Value.ref q.1 ∧ d = q.2) (L1.map fun q => Value.ref q.1) (L1.map (·.2))
  | _, [], _ => .nil
  | L, q :: L1, h => .cons ⟨q, h q List.mem_cons_self, rfl, rfl⟩ (each_refs fun r hr => h r (List.mem_cons_of_mem _ hr))
theorem to_V {L : Rw} : ∀ {us : List Value} {ds : List Dd}, EachIs (fun v d => ∃ q ∈ L, v = Value.ref q.1 ∧ d = q.2) us ds → ∃ ws : List V, Vals ws us ∧ EachIs (fun v d => ∃ q ∈ L, v = V.ref q.1 ∧ d = q.2) ws ds
  | _, _, .nil => ⟨[], .nil, .nil⟩
  | _, _, .cons ⟨q, h1, h2, h3⟩ e => by
    obtain ⟨ws, w1, w2⟩ := to_V e
    exact ⟨.ref q.1 :: ws, .cons h2 w1, .cons ⟨q, h1, rfl, h3⟩ w2⟩
theorem cr_sortedD {X : L2.Cx} (hc : X.calm = true) (hu : X.A.units + 64 < cLine) : CallR X (.builtin "sorted") (rSortedD X.K X.w) := by
  intro pins s σ H vs us Q I r h
  obtain ⟨a, L, rfl, ha, hk, nd, q⟩ := h
  have R0 : SetD0 X.w s.heap a L := (I.hok a _ ha).1
  obtain ⟨es, ep, t, R⟩ := R0.full fun p hp => is_at I (hk p hp)
  rw [Vals.ref1 r]
  refine sorted_set R (I.ok.hd hc) fun s1 vs k1 hz g1 o1 pm hv => ?_
  -- the values, in the set's order, are the rows
  have ord : ∀ vs : List Value, (∀ v ∈ vs, ∃ q ∈ L, v = Value.ref q.1) → ∃ L1 : Rw, vs = L1.map (fun q => Value.ref q.1) ∧ ∀ q ∈ L1, q ∈ L := fun vs => by
    induction vs with
    | nil => exact fun _ => ⟨[], rfl, fun q hq => (by cases hq)⟩
    | cons v vs ih =>
      intro hv
      obtain ⟨q, hq, e⟩ := hv v List.mem_cons_self
      obtain ⟨L1, e1, hs⟩ := ih fun u hu => hv u (List.mem_cons_of_mem _ hu)
      exact ⟨q :: L1, by rw [List.map_cons, e, e1], fun r hr => (List.mem_cons.mp hr).elim (fun z => z ▸ hq) (hs r)⟩
  obtain ⟨L1, rfl, hs1⟩ := ord vs fun v hv => by
    obtain ⟨q, hq, e⟩ := List.mem_map.mp (pm.mem_iff.mp hv)
    exact ⟨q, hq, e.symm⟩
  have one : ∀ q ∈ L, ∀ r ∈ L, q.1 = r.1 → q = r := fun q hq r hr e => by
    have x := is_at I (hk q hq)
    have y := is_at I (hk r hr)
    rw [← e] at y
    exact Prod.ext e (x.one y)
  have nref : (L.map fun q => Value.ref q.1).Nodup := by
    have nL : L.Nodup := nodup_of_map nd
    refine List.pairwise_map.mpr (List.Pairwise.imp_of_mem (fun {q r} hq hr hne e => ?_) nL)
    injection e with e
    exact hne (one q hq r hr e)
  have pL : L1.Perm L := by
    have n1 : L1.Nodup := nodup_of_map (pm.nodup_iff.mpr nref)
    refine (List.perm_ext_iff_of_nodup n1 (nodup_of_map nd)).mpr fun q => ⟨hs1 q, fun hq => ?_⟩
    obtain ⟨r, hr, e⟩ := List.mem_map.mp (pm.mem_iff.mpr (List.mem_map.mpr ⟨q, hq, rfl⟩))
    injection e with e
    exact one r (hs1 r hr) q hq e ▸ hr
  have e0 := each_refs hs1
  generalize hvs : (L1.map fun q => Value.ref q.1) = vs at *
  have e1 : EachIs (fun v d => ∃ as, Reads (sortingHeap (s1.heap.push (seqObj "list" vs.toArray 0)) s1.heap.objs.size vs) v (ddD d) as) vs (L1.map (·.2)) := e0.mono fun v d ⟨q, hq, e1, e2⟩ => by
    subst e1 e2
    obtain ⟨as, r1⟩ := Dp.reads I (ddD q.2) (.ref q.1) (.ref q.1) (hk q hq) rfl
    refine ⟨as, PyProof.Rows.Reads.keeps (fun b u e => ?_) r1⟩
    have e2 := k1 b u e
    have lt := Heap.lt_size e2
    exact sortingHeap_old (Nat.ne_of_lt lt) (Heap.get?_push_of_some _ e2)
  refine ⟨DvS.ddKind (sortingHeap (s1.heap.push (seqObj "list" vs.toArray 0)) s1.heap.objs.size vs), DvS.dd_sorts (s := { s1 with heap := sortingHeap (s1.heap.push (seqObj "list" vs.toArray 0)) s1.heap.objs.size vs }) e1 (by show X.A.units + 1 + 1 + 8 < cLine; omega), ?_⟩
  have e3 := sortVals_each (κ := DvS.ddKind (sortingHeap (s1.heap.push (seqObj "list" vs.toArray 0)) s1.heap.objs.size vs)) (rev := false) (fun d => keyToks (ddD d)) e0 (e1.mono fun v d ⟨as, r1⟩ => DvS.ddKind_some r1)
  rw [show PySem.W.sortLe (DvS.ddKind (sortingHeap (s1.heap.push (seqObj "list" vs.toArray 0)) s1.heap.objs.size vs)).toKeyOrd false (fun d => keyToks (ddD d)) = _ from le_eq] at e3
  obtain ⟨ws', v1, v2⟩ := to_V e3
  generalize hout : sortVals (DvS.ddKind (sortingHeap (s1.heap.push (seqObj "list" vs.toArray 0)) s1.heap.objs.size vs)) false vs vs = out at *
  have hoL : (s1.heap.push (seqObj "list" vs.toArray 0)).get? s1.heap.objs.size = some (seqObj "list" vs.toArray 0) := Heap.get?_push_size _ rfl
  obtain ⟨c, hc'⟩ := sortedHeap_at (vs := vs) (out := out.toArray) hoL
  have lo : out.length = vs.length := by rw [← hout]; exact sortVals_length false rfl
  have hlen : ws'.length ≤ sizeLine := by rw [v1.length, lo, sizeLine_eq]; omega
  have hn : H s1.heap.objs.size = none := I.hok.fresh hz
  have kk : ∀ b u, s.heap.get? b = some u → (sortedHeap (s1.heap.push (seqObj "list" vs.toArray 0)) s1.heap.objs.size vs out.toArray).get? b = some u := fun b u e => by
    have e2 := k1 b u e
    have lt := Heap.lt_size e2
    rw [sortedHeap_old (Nat.ne_of_lt lt) (by rw [size_push']; exact Nat.lt_succ_of_lt lt)]
    exact Heap.get?_push_of_some _ e2
  obtain ⟨h1, gs1, d1, t1, os1⟩ := s1
  dsimp only at g1 o1 hz hn hc' kk
  subst g1 o1
  have ok : ObjOk X.prog X.w (upd H h1.objs.size (.lst ws')) (sortedHeap (h1.push (seqObj "list" vs.toArray 0)) h1.objs.size vs out.toArray) h1.objs.size (.lst ws') := ⟨hlen, out, c, v1, hc'⟩
  have J : L2.Inv X pins σ (upd H h1.objs.size (.lst ws')) { s with heap := sortedHeap (h1.push (seqObj "list" vs.toArray 0)) h1.objs.size vs out.toArray, gens := s.gens, drawn := d1, toks := t1 } :=
    I.call (ch := []) (Un.laid kk hz hn) (I.hok.laid kk hz ok) I.bare (fun _ z => nomatch z)
  exact ⟨.ref h1.objs.size, _, J, rfl, q _ ws' _ (pL.map (·.2)) v2 hn⟩
end DvN

set_option Elab.async false
set_option linter.all false
set_option maxRecDepth 100000
set_option maxHeartbeats 1000000
namespace Dv
open PySem PySem.Spec L2 RZ DvN PySem.W PyProof.Rows
variable [TabC]
/-! sorted(set(x)), x a list or a tuple of deeds -/
def ddu : List Dd → List Dd
  | [] => []
  | x :: r => if x ∈ r then ddu r else x :: ddu r
theorem mem_ddu {k : Dd} : ∀ ds : List Dd, k ∈ ddu ds ↔ k ∈ ds
  | [] => Iff.rfl
  | x :: r => by
    unfold ddu
    split
    · rename_i h
      rw [mem_ddu r, List.mem_cons]
      exact ⟨.inr, fun z => z.elim (fun e => e ▸ h) id⟩
    · rw [List.mem_cons, List.mem_cons, mem_ddu r]
theorem nd_ddu : ∀ ds : List Dd, (ddu ds).Nodup
  | [] => List.nodup_nil
  | x :: r => by
    unfold ddu
    split
    · exact nd_ddu r
    · rename_i h
      exact List.nodup_cons.mpr ⟨fun z => h ((mem_ddu r).mp z), nd_ddu r⟩
def usortD (ds : List Dd) : List Dd := dsort (ddu ds)
theorem ddl_nn : PySem.W.listLt ([] : List Int) [] = false := rfl
theorem ddl_cn (x : Int) (xs : List Int) : PySem.W.listLt (x :: xs) [] = false := rfl
theorem ddl_nc (x : Int) (xs : List Int) : PySem.W.listLt [] (x :: xs) = true := rfl
theorem ddl_split : ∀ (c a b : List Int), PySem.W.listLt c a = true → PySem.W.listLt c b = true ∨ PySem.W.listLt b a = true
  | [], [], _, h => by rw [ddl_nn] at h; cases h
  | _ :: _, [], _, h => by rw [ddl_cn] at h; cases h
  | c, x :: xs, [], h => .inr rfl
  | [], x :: xs, y :: ys, _ => .inl rfl
  | z :: zs, x :: xs, y :: ys, h => by
    rw [DvS.key_cons] at h ⊢
    rw [DvS.key_cons]
    split at h
    · rename_i e
      subst e
      by_cases f : z = y
      · subst f
        rw [if_pos rfl, if_pos rfl]
        exact ddl_split zs xs ys h
      · rw [if_neg f, if_neg (Ne.symm f)]
        simp only [decide_eq_true_eq]
        omega
    · rename_i e
      have h := of_decide_eq_true h
      by_cases f : z = y
      · subst f
        right
        rw [if_neg e]
        exact decide_eq_true h
      · rw [if_neg f]
        by_cases g : y = x
        · subst g
          exact .inl (decide_eq_true h)
        · rw [if_neg g]
          simp only [decide_eq_true_eq]
          omega
theorem ddl_tri : ∀ (a b : List Int), PySem.W.listLt a b = false → PySem.W.listLt b a = false → a = b
  | [], [], _, _ => rfl
  | [], y :: ys, h, _ => by rw [ddl_nc] at h; cases h
  | x :: xs, [], _, h => by rw [ddl_nc] at h; cases h
  | x :: xs, y :: ys, h1, h2 => by
    rw [DvS.key_cons] at h1 h2
    by_cases e : x = y
    · subst e
      rw [if_pos rfl] at h1 h2
      rw [ddl_tri xs ys h1 h2]
    · rw [if_neg e] at h1
      rw [if_neg (Ne.symm e)] at h2
      have := of_decide_eq_false h1
      have := of_decide_eq_false h2
      omega
theorem ddl_asym : ∀ (a b : List Int), PySem.W.listLt a b = true → PySem.W.listLt b a = false
  | [], [], h => by rw [ddl_nn] at h; cases h
  | [], y :: ys, _ => rfl
  | x :: xs, [], h => by rw [ddl_cn] at h; cases h
  | x :: xs, y :: ys, h => by
    rw [DvS.key_cons] at h ⊢
    by_cases e : x = y
    · subst e
      rw [if_pos rfl] at h ⊢
      exact ddl_asym xs ys h
    · rw [if_neg e] at h
      rw [if_neg (Ne.symm e)]
      have := of_decide_eq_true h
      exact decide_eq_false (by omega)
theorem ddk_inj {a b : Dd} (h : ddKey a = ddKey b) : a = b := by
  cases a <;> cases b <;> simp [ddKey] at h <;> simp [h]
theorem ddl_le (ds : List Dd) : (dsort ds).Pairwise fun a b => (!ddLt b a) = true := by
  refine List.pairwise_mergeSort (le := fun a b => !ddLt b a) (fun a b c h1 h2 => ?_) (fun a b => ?_) ds
  · cases h : ddLt c a with
    | false => rfl
    | true =>
      rcases ddl_split _ _ (ddKey b) h with z | z
      · have z : ddLt c b = true := z
        simp only [z] at h2
        cases h2
      · have z : ddLt b a = true := z
        simp only [z] at h1
        cases h1
  · cases h1 : ddLt b a with
    | false => rfl
    | true =>
      cases h2 : ddLt a b with
      | false => rfl
      | true =>
        have := ddl_asym _ _ h1
        unfold ddLt at h2
        rw [this] at h2
        cases h2
/-- two sorted lists of the same rows, none twice -/
theorem dd_same : ∀ {xs ys : List Dd}, xs.Perm ys → xs.Pairwise (fun a b => (!ddLt b a) = true) → ys.Pairwise (fun a b => (!ddLt b a) = true) → xs = ys
  | [], ys, p, _, _ => by rw [List.nil_perm.mp p]
  | x :: xs, [], p, _, _ => by have := p.length_eq; simp at this
  | x :: xs, y :: ys, p, h1, h2 => by
    have a1 := List.pairwise_cons.mp h1
    have a2 := List.pairwise_cons.mp h2
    have e : x = y := by
      have m1 : x ∈ y :: ys := p.mem_iff.mp List.mem_cons_self
      have m2 : y ∈ x :: xs := p.mem_iff.mpr List.mem_cons_self
      rcases List.mem_cons.mp m1 with e | m1
      · exact e
      rcases List.mem_cons.mp m2 with e | m2
      · exact e.symm
      have b1 := a2.1 x m1
      have b2 := a1.1 y m2
      have c1 : ddLt x y = false := by simpa using b1
      have c2 : ddLt y x = false := by simpa using b2
      exact ddk_inj (ddl_tri _ _ c1 c2)
    subst e
    rw [dd_same ((List.perm_cons x).mp p) a1.2 a2.2]
theorem usortD_of {ds bs : List Dd} (nd : bs.Nodup) (hm : ∀ d, d ∈ bs ↔ d ∈ ds) : dsort bs = usortD ds := by
  have p : bs.Perm (ddu ds) := (List.perm_ext_iff_of_nodup nd (nd_ddu ds)).mpr fun d => by rw [hm, mem_ddu]
  exact dd_same (((List.mergeSort_perm bs _).trans p).trans (List.mergeSort_perm (ddu ds) _).symm) (ddl_le bs) (ddl_le (ddu ds))
theorem mem_usortD {k : Dd} (ds : List Dd) : k ∈ usortD ds ↔ k ∈ ds := by
  unfold usortD
  unfold dsort
  rw [(List.mergeSort_perm (ddu ds) _).mem_iff, mem_ddu]
theorem usortD_nil : usortD [] = [] := by simp [usortD, dsort, ddu]
theorem ddu_len : ∀ ds : List Dd, (ddu ds).length ≤ ds.length
  | [] => Nat.le_refl _
  | x :: r => by
    unfold ddu
    split
    · exact Nat.le_succ_of_le (ddu_len r)
    · exact Nat.succ_le_succ (ddu_len r)
theorem usortD_len (ds : List Dd) : (usortD ds).length ≤ ds.length := by
  unfold usortD
  unfold dsort
  rw [(List.mergeSort_perm (ddu ds) _).length_eq]
  exact ddu_len ds
theorem usortD_up (ds : List Dd) : (usortD ds).Pairwise fun a b => ddLt a b = true := by
  have h1 := ddl_le (ddu ds)
  have h2 : (usortD ds).Nodup := (List.mergeSort_perm (ddu ds) _).nodup_iff.mpr (nd_ddu ds)
  refine (List.Pairwise.and h1 h2).imp fun {a b} ⟨x, y⟩ => ?_
  cases h : ddLt a b with
  | true => rfl
  | false =>
    have x : ddLt b a = false := by simpa using x
    exact absurd (ddk_inj (ddl_tri _ _ h x)) y
def hkSD : Hk := fun r sc ρ e => match e with
  | .Call (.Name f pf) [.Call (.Name g pg) [a] [] pc] [] pos => if f = "sorted" ∧ g = "set" ∧ globB sc "sorted" = true ∧ globB sc "set" = true ∧ notStar a = true then match r.d sc ρ a with
    | some (.list xs, ρ1) => match asDds xs with
      | some ds => if ds.length < 64 then some (.ow ((usortD ds).map ddD), ρ1) else none
      | none => none
    | some (.tuple xs, ρ1) => match asDds xs with
      | some ds => if ds.length < 64 then some (.ow ((usortD ds).map ddD), ρ1) else none
      | none => none
    | _ => none
    else none
  | _ => none
theorem dd_rows {G : Ctx} {H : Hp} : ∀ {ds : List Dd} {vs : List V}, Reps G H (ds.map ddD) vs → ∃ ks : Rw, vs = (ks.map fun q => V.ref q.1) ∧ ds = ks.map (·.2) ∧ ∀ q ∈ ks, Rep G H (ddD q.2) (.ref q.1)
  | [], _, h => by simp only [List.map_nil, Reps] at h; exact ⟨[], h, rfl, fun q hq => (by cases hq)⟩
  | d :: ds, _, h => by
    simp only [List.map_cons, Reps] at h
    obtain ⟨w, ws, rfl, h1, h2⟩ := h
    obtain ⟨ks, rfl, rfl, e3⟩ := dd_rows h2
    have : ∃ a, w = .ref a := by
      cases d <;> (obtain ⟨a, _, e, _⟩ := Rep.tpo (G := G) (H := H) h1; exact ⟨a, e⟩)
    obtain ⟨a, rfl⟩ := this
    exact ⟨(a, d) :: ks, rfl, rfl, fun q hq => (List.mem_cons.mp hq).elim (fun e => e ▸ h1) (e3 q)⟩
theorem rows_dd {G : Ctx} {H : Hp} {L : Rw} (hL : ∀ q ∈ L, Rep G H (ddD q.2) (.ref q.1)) : ∀ {ws : List V} {ds : List Dd}, EachIs (fun v d => ∃ q ∈ L, v = V.ref q.1 ∧ d = q.2) ws ds → Reps G H (ds.map ddD) ws
  | _, _, .nil => Reps.nil
  | _, _, .cons ⟨q, h1, h2, h3⟩ e => by
    subst h2 h3
    exact Reps.cons (hL q h1) (rows_dd hL e)
theorem noDict_dd (d : Dd) : (ddD d).hasDict = false := by
  cases d with
  | leave h p => simp [ddD, PyData.hasDict, PyData.hasDictAll]
  | wish h ps =>
    have : PyData.hasDictAll (ps.map .int) = false := by
      induction ps with
      | nil => rfl
      | cons p ps ih => simp [PyData.hasDictAll, PyData.hasDict, ih]
    simp [ddD, PyData.hasDict, PyData.hasDictAll, this]
theorem hkSD_ok : HkOk hkSD := ⟨fun {X sc k} K r he ht e => PE.of fun σ H Q q => by
  obtain ⟨ρ, s, ρ', H0, hev, E, q⟩ := q
  dsimp only at hev
  unfold hkSD at hev
  split at hev
  · rename_i f pf g pg a pc pos
    split at hev
    · rename_i hc
      obtain ⟨rfl, rfl, g1, g2, hs⟩ := hc
      have hu : X.A.units + 64 < cLine := by have := K.room.un; omega
      have fin : ∀ {ρ1 : Rho} {H1 H01 : Hp} {a : Addr} {vs : List V} {ds : List Dd}, Tr ρ σ H0 H ρ1 σ H01 H1 → REnv (Cx.G X) ρ1 σ H01 H1 → (SqL X.K H1 a vs ∨ SqT X.K H1 a vs) → Reps (Cx.G X) H01 (ds.map ddD) vs → ds.length < 64 →
          (∀ v H' H0', Tr ρ σ H0 H ρ1 σ H0' H' → REnv (Cx.G X) ρ1 σ H0' H' → RSl (Cx.G X) ρ σ H ρ1 H0' H' (.ow ((usortD ds).map ddD)) v → Q v H') → rSetD X.K X.w [.ref a] H1 fun p H2 => rSortedD X.K X.w [p] H2 Q := fun {ρ1 H1 H01 a vs ds} T1 E1 hs hr hl q => by
        obtain ⟨ks, rfl, rfl, hk⟩ := dd_rows hr
        refine ⟨a, ks, rfl, hs, fun z hz => ((hk z hz).ex E1.ex).dp (noDict_dd _), by simpa using hl, fun p L hp s1 s2 nd => ⟨p, L, rfl, upd_same, fun z hz => ((hk z (s1 z hz)).ex (E1.ex.trans (Ex.new hp))).dp (noDict_dd _), nd, fun bs ws' r pm hw hr => ?_⟩⟩
        have nb : bs.Nodup := pm.nodup_iff.mpr nd
        have e : dsort bs = usortD (ks.map (·.2)) := usortD_of nb fun d => by
          rw [pm.mem_iff]
          constructor
          · intro z
            obtain ⟨y, hy, e⟩ := List.mem_map.mp z
            exact List.mem_map.mpr ⟨y, s1 y hy, e⟩
          · intro z
            obtain ⟨y, hy, e⟩ := List.mem_map.mp z
            exact e ▸ s2 y hy
        rw [e] at hw
        have E2 := E1.newO (o := SetDO X.w p L) hp
        have T2 := T1.trans (Tr.newO (ρ := ρ1) (σ := σ) (H0 := H01) (o := SetDO X.w p L) hp)
        exact q _ _ _ (T2.trans (Tr.newO hr)) (E2.newO hr) ((RSl.newO E2 hr (rows_dd (fun z hz => hk z (s1 z hz)) hw)).via T2)
      split at hev
      · rename_i xs ρ1 h1
        split at hev
        · rename_i ds hn
          split at hev
          · rename_i hf
            cases hev
            have hx := asDds_eq hn
            subst hx
            refine ⟨_, pe_callB (cr_sortedD K.calm hu) (K.gl g1) (K.blt "sorted" _ rfl) (by decide +kernel) (pa_cons (pe_callTy (cr_setD K.calm hu) (K.gl g2) K.isi.2.2.2.2 (by decide +kernel) (pa_cons (tD_of (he a)) pa_nil (star_of hs)) (by decide) (by decide) (star_of hs) (by rfl)) pa_nil rfl) (by decide) (by decide) rfl (by rfl), ?_⟩
            refine ⟨ρ, _, ρ', H0, h1, E, fun v H1 H01 T1 E1 r1 => ?_⟩
            obtain ⟨b, vs, rfl, g3, g4⟩ := r1.lst
            exact fin T1 E1 (.inl (SqL.of (E1.ex _ _ g3))) g4 hf q
          · cases hev
        · cases hev
      · rename_i xs ρ1 h1
        split at hev
        · rename_i ds hn
          split at hev
          · rename_i hf
            cases hev
            have hx := asDds_eq hn
            subst hx
            refine ⟨_, pe_callB (cr_sortedD K.calm hu) (K.gl g1) (K.blt "sorted" _ rfl) (by decide +kernel) (pa_cons (pe_callTy (cr_setD K.calm hu) (K.gl g2) K.isi.2.2.2.2 (by decide +kernel) (pa_cons (tD_of (he a)) pa_nil (star_of hs)) (by decide) (by decide) (star_of hs) (by rfl)) pa_nil rfl) (by decide) (by decide) rfl (by rfl), ?_⟩
            refine ⟨ρ, _, ρ', H0, h1, E, fun v H1 H01 T1 E1 r1 => ?_⟩
            obtain ⟨b, vs, rfl, g3, g4⟩ := r1.tup
            exact fin T1 E1 (.inr (.inl (ex_rd E1.ex g3))) g4 hf q
          · cases hev
        · cases hev
      · cases hev
    · cases hev
  · cases hev⟩
end Dv

set_option Elab.async false
set_option linter.all false
set_option maxRecDepth 100000
set_option maxHeartbeats 1000000
namespace Dv
open PySem PySem.Spec L2 RZ
open PyProof.Rows (envOfC)
variable [TabC]
/-! a law's def that asks for repr, with places of its own text that have an evaluator of their own; no lambdas -/
def xtQ (x : Str) (h : Hk) : Xt := { b := false, hk := some h, on := fun sc => decide (sc.names.lookup x = some .local), rp := true }
section
variable {P : Program} {w : World} {K : PySem.W.Frag} {mg : Str → Option Value} {base : Heap} {k : Nat} {gl : Str → Option Sl} {fns : Str → Option Fn}
theorem law_runsQ {h : Hk} (hh : HkOk h) {fnsL : Str → Option Fn} {x : Str} {N : List Str} {st : Stmt} {fa a : Addr} {oc : Value} {od an : Option Addr} {osl : Array (Option Value)} {kV doc pm cdv ct : Value}
    (lk : K.lookup fa = some ⟨oc, od, .func (PySem.W.fnOf "law" "law" (defArgs st) (defBody st) (defScope st) .none kV doc pm an cdv ct), osl⟩) (hcd : PySem.W.codeIn K cdv "law" = true) (Sc : FnScope N [x] (defScope st)) (hN : 1 ≤ N.length) (M : MOk gl fns P w K mg base k) (hr : Room (k + 2 + 1) callerA)
    (hb : bindArgs (PySem.W.fnOf "law" "law" (defArgs st) (defBody st) (defScope st) .none kV doc pm an cdv ct) ⟨[.ref a], []⟩ = pure ([x].zip [.ref a])) (hrp : mg "repr" = none)
    (hfns : ∀ X : L2.Cx, X.prog = P → X.w = w → X.K = K → X.mg = mg → X.base = base → X.A.guards = some [] → Room (k + 2) X.A → ∀ y fn, fnsL y = some fn → FOk k X y fn)
    {s : Shared} {H H0 : Hp} {ns : List Int} (e0 : Env0 P w K mg base callerA [] s H) (tb : TbOk H0 H) (ex : Ex H0 H) (sq : SqL K H0 a (ns.map V.int))
    (hrun : wRun (evFn N gl fnsL st false 1 (xtQ x h)) [] [.fz ns] fun s bs => s = .im (.bool true) ∧ bs = []) :
    codeAny (model P w) callerA (.call (.ref fa) ⟨[.ref a], []⟩) (CR CX0 [] P w H s (fun v _ => v = .bl true) fun _ _ _ => False) s := by
  refine LamX.run_ofS (N := N) (ps := [x]) (us := [.ref a]) (vs := [.ref a]) lk hcd Sc hr e0 (.of_eq hb) (.cons rfl .nil) rfl fun hr' => ?_
  have SO : SOk ⟨N, gl, fnsL, xtQ x h⟩ (defScope st) k (cxOf CX0 P w K mg base N "law" (defScope st) fa cdv callerA [] s H (fun _ _ _ => False)).nox := by
    refine ⟨⟨⟨rfl, Sc.nd, rfl, M.gl⟩, fun h' hh' _ r he ht e => ?_, fun _ => ⟨rfl, hrp⟩, rfl, hr'.mono (by omega), hfns _ rfl rfl rfl rfl rfl rfl hr', M.blt, M.isi, M.tys⟩, fun _ => rfl, Sc.kind, PassesOwn.never⟩
    cases hh'
    exact hh.ok (k := k) ⟨rfl, rfl, hr'.mono (by omega), M.blt, M.isi, M.tys⟩ r he ht e
  obtain ⟨sl, bs, hev, rfl, rfl⟩ := hrun
  obtain ⟨t, ht, hq⟩ := body_ok (ps := [x]) (vs := [.ref a]) (Q := fun v _ => v = .bl true) (E' := fun _ _ _ => False) (evFn N gl fnsL st false 1 (xtQ x h)) SO rfl hN (fun bs as s bs' h _ => evFn_run0 bs as s bs' h) (by
    refine ⟨rfl, H0, tb, ex, ?_⟩
    split
    · exact ⟨[.fz ns], _, ⟨_, _, rfl, ⟨a, rfl, sq⟩, rfl⟩, hev, fun v H' H0' _ r => Rep.bl (G := (K, mg)) (H := H0') r⟩
    · rename_i hn
      exact absurd rfl hn)
  exact ⟨t, ht.nox, hq⟩
end
/-! steps of the reading W, with the statement or the expression as it stands -/
section
variable {C : Cf} {n m wf : Nat} {sc : Scope} {ok : Nat → Bool} {ρ ρ' : Rho}
theorem we_hk {e : Expr} {K : Sl → Rho → Prop} {s : Sl} (h : hkE C (evs C n) sc ρ e = some (s, ρ')) (q : K s ρ') : (ws C (n + 1)).e sc ρ e K := by
  show wStepE C (ws C n) (evs C n) sc ρ e K
  unfold wStepE
  rw [h]
  exact q
theorem wd_hk {e : Expr} {K : D → Rho → Prop} {d : D} (h : hkE C (evs C n) sc ρ e = some (.im d, ρ')) (q : K d ρ') : (ws C (n + 1)).d sc ρ e K := we_hk (K := frzK K) h q
theorem w_asgC {x : Str} {px p pc : Pos} {f : Expr} {es : List Expr} {ks : List Keyword} {Q : Fl → Prop} (h : (ws C n).e sc ρ (.Call f es ks pc) (wName C ok sc x Q)) : wxs C n sc ok wf (m + 1) ρ (.Assign [.Name x px] (.Call f es ks pc) p) Q := h
end
end Dv

set_option Elab.async false
set_option linter.all false
set_option maxRecDepth 100000
set_option maxHeartbeats 1000000
namespace K11
open PySem PySem.Spec L2 Dv
variable [TabC]
def top (i : Nat) : Stmt := PySem.Challenge.pw_tenturns_k11_lessons_parties_deeds_books.main.body.getD i (.Pass ⟨0, 0, 0, 0⟩)
/-! ### the defs as the evaluator runs them -/
def gl : Str → Option Sl := fun x => if x = "MOST_DEEDS" then some (.im (.int 24)) else if x = "MOST_FRIENDS" then some (.im (.int 3)) else if x = "is_person" then some (.fn "is_person") else if x = "is_deed" then some (.fn "is_deed") else none
def F0 : Str → Option Fn := fun _ => none
def isWhole : Fn := evFn ["thing", "least", "most"] gl F0 (top 1) false 3
def F1 : Str → Option Fn := fun x => if x = "is_whole" then some isWhole else F0 x
def isPerson : Fn := evFn ["thing"] gl F1 (top 2) false 1
def F2 : Str → Option Fn := fun x => if x = "is_person" then some isPerson else F1 x
def isDay : Fn := evFn ["thing"] gl F2 (top 3) false 1
def F3 : Str → Option Fn := fun x => if x = "is_day" then some isDay else F2 x
def isHour : Fn := evFn ["thing"] gl F3 (top 4) false 1
def F4 : Str → Option Fn := fun x => if x = "is_hour" then some isHour else F3 x
def isTriple : Fn := evFn ["thing"] gl F4 (top 5) false 1
def F5 : Str → Option Fn := fun x => if x = "is_triple" then some isTriple else F4 x
def areRising : Fn := evFn ["thing", "is_one", "one", "ahead", "behind"] gl F5 (top 6) false 2
def F6 : Str → Option Fn := fun x => if x = "are_rising" then some areRising else F5 x
def isLesson : Fn := evFn ["thing", "day", "places", "late"] gl F6 (top 10) false 1
def F7 : Str → Option Fn := fun x => if x = "is_lesson" then some isLesson else F6 x
def isParty : Fn := evFn ["thing"] gl F7 (top 11) false 1
def F8 : Str → Option Fn := fun x => if x = "is_party" then some isParty else F7 x
def isDeed : Fn := evFn ["thing", "hour", "word", "who"] gl F8 (top 12) false 1
def F9 : Str → Option Fn := fun x => if x = "is_deed" then some isDeed else F8 x
def areRising2 : Fn := evFn ["thing", "is_one", "one", "ahead", "behind"] gl F9 (top 6) false 2
def F10 : Str → Option Fn := fun x => if x = "are_rising" then some areRising2 else F9 x
def isBook : Fn := evFn ["thing"] gl F10 (top 13) false 1
def F11 : Str → Option Fn := fun x => if x = "is_book" then some isBook else F10 x
def lawBox : Fn := evFn ["_law_script", "_law_k", "_law_cell"] gl F11 (top 15) false 2
def F12 : Str → Option Fn := fun x => if x = "_law_box" then some lawBox else F11 x
def lawTake : Fn := evFn ["_law_box_here", "_law_many", "_law_digit", "_law_high"] gl F12 (top 16) true 2
def F13 : Str → Option Fn := fun x => if x = "_law_take" then some lawTake else F12 x
def lawFromTo : Fn := evFn ["_law_thing", "_law_least", "_law_most"] gl F13 (top 17) false 3
def F14 : Str → Option Fn := fun x => if x = "_law_is_from_to" then some lawFromTo else F13 x
def spoil0 : Fn := evFn ["_law_box_here", "_law_thing", "_law_odd_here", "_law_at", "_law_way", "_law_some"] gl F14 (top 18) true 3
def F15 : Str → Option Fn := fun x => if x = "_law_spoil" then some spoil0 else F14 x
def spoil1 : Fn := evFn ["_law_box_here", "_law_thing", "_law_odd_here", "_law_at", "_law_way", "_law_some"] gl F15 (top 18) true 3
def F16 : Str → Option Fn := fun x => if x = "_law_spoil" then some spoil1 else F15 x
def spoil2 : Fn := evFn ["_law_box_here", "_law_thing", "_law_odd_here", "_law_at", "_law_way", "_law_some"] gl F16 (top 18) true 3
def F17 : Str → Option Fn := fun x => if x = "_law_spoil" then some spoil2 else F16 x
def spoil3 : Fn := evFn ["_law_box_here", "_law_thing", "_law_odd_here", "_law_at", "_law_way", "_law_some"] gl F17 (top 18) true 3
def F18 : Str → Option Fn := fun x => if x = "_law_spoil" then some spoil3 else F17 x
def lawOdd : Fn := evFn ["_law_box_here", "_law_some"] gl F18 (top 19) true 1 (xtC false)
def F19 : Str → Option Fn := fun x => if x = "_law_odd" then some lawOdd else F18 x
def lawRising : Fn := evFn ["_law_row", "_law_one", "_law_other"] gl F19 (top 20) false 1
def F20 : Str → Option Fn := fun x => if x = "_law_rising" then some lawRising else F19 x
def lawLesson : Fn := evFn ["_law_box_here", "_law_places"] gl F20 (top 21) true 1
def F21 : Str → Option Fn := fun x => if x = "_law_lesson" then some lawLesson else F20 x
def lawParty : Fn := evFn ["_law_box_here", "_law_persons", "_law_some", "_law_turn"] gl F21 (top 22) true 2
def F22 : Str → Option Fn := fun x => if x = "_law_party" then some lawParty else F21 x
def lawHour : Fn := evFn ["_law_box_here", "_law_lesson_here", "_law_edge", "_law_some"] gl F22 (top 23) true 2
def F23 : Str → Option Fn := fun x => if x = "_law_hour" then some lawHour else F22 x
def lawDeed : Fn := evFn ["_law_box_here", "_law_lesson_here", "_law_persons", "_law_hour_here"] gl F23 (top 24) true 3
def F24 : Str → Option Fn := fun x => if x = "_law_deed" then some lawDeed else F23 x
def lawIsLesson : Fn := evFn ["_law_thing"] gl F24 (top 25) false 1
def F25 : Str → Option Fn := fun x => if x = "_law_is_lesson" then some lawIsLesson else F24 x
def lawIsParty : Fn := evFn ["_law_thing", "_law_one"] gl F25 (top 26) false 1
def F26 : Str → Option Fn := fun x => if x = "_law_is_party" then some lawIsParty else F25 x
def lawIsDeed : Fn := evFn ["_law_thing"] gl F26 (top 27) false 1
def F27 : Str → Option Fn := fun x => if x = "_law_is_deed" then some lawIsDeed else F26 x
def lawIsBook : Fn := evFn ["_law_thing", "_law_deed_here"] gl F27 (top 28) false 1
def F28 : Str → Option Fn := fun x => if x = "_law_is_book" then some lawIsBook else F27 x
end K11

set_option Elab.async false
set_option linter.all false
set_option maxRecDepth 100000
set_option maxHeartbeats 1000000
namespace K11
open PySem PySem.Spec L2 Dv
variable [TabC]
/-! ### a row, as numbers -/
abbrev Ls := Int × Int × Int
abbrev Ps := List Int
def daysD (ns : List Int) : D := .tuple (ns.map .int)
def lsD (l : Ls) : D := .tuple [.int l.1, .int l.2.1, .int l.2.2]
def psD (ps : List Ps) : D := .tuple (ps.map daysD)
def bkD (ds : List Dd) : D := .tuple (ds.map ddD)
theorem wr {fn : Fn} {bs : List D} {as : List Sl} {s : Sl} {r : List D} {P : Sl → List D → Prop} (h : wRun fn bs as fun s' r' => s' = s ∧ r' = r) (p : P s r) : wRun fn bs as P := by
  obtain ⟨s', r', e, rfl, rfl⟩ := h
  exact ⟨_, _, e, p⟩
theorem wri {fn : Fn} {bs : List D} {as : List Sl} {P Q : Sl → List D → Prop} (h : wRun fn bs as P) (p : ∀ s r, P s r → Q s r) : wRun fn bs as Q := by
  obtain ⟨s, r, e, q⟩ := h
  exact ⟨s, r, e, p s r q⟩
theorem eqI (i j : Int) : PyData.eqv (.int i) (.int j) = decide (i = j) := by
  simp only [PyData.eqv]
  rfl
theorem fm_some {α β : Type} (f : α → β) : ∀ xs : List α, xs.filterMap (fun x => some (f x)) = xs.map f
  | [] => rfl
  | x :: xs => by simp
theorem bltAll {α : Type} (xs : List α) (p : α → Bool) : bltD "all" [.list ([] ++ xs.filterMap fun x => some (PyData.bool (p x)))] = some (.im (.bool (xs.all p))) := by
  rw [List.nil_append, fm_some, show (xs.map fun x => PyData.bool (p x)) = (xs.map p).map PyData.bool by simp]
  have e : bltD "all" [.list ((xs.map p).map PyData.bool)] = (asBools ((xs.map p).map PyData.bool)).map fun bs => .im (.bool (bs.all id)) := rfl
  rw [e, asBools_map]
  simp
theorem bltAny {α : Type} (xs : List α) (p : α → Bool) : bltD "any" [.list ([] ++ xs.filterMap fun x => some (PyData.bool (p x)))] = some (.im (.bool (xs.any p))) := by
  rw [List.nil_append, fm_some, show (xs.map fun x => PyData.bool (p x)) = (xs.map p).map PyData.bool by simp]
  have e : bltD "any" [.list ((xs.map p).map PyData.bool)] = (asBools ((xs.map p).map PyData.bool)).map fun bs => .im (.bool (bs.any id)) := rfl
  rw [e, asBools_map]
  simp
theorem bltSorted_tup (ns : List Int) : bltD "sorted" [daysD ns] = some (.ow ((isort ns).map .int)) := by
  have e : bltD "sorted" [daysD ns] = sortE (ns.map .int) := rfl
  rw [e]
  unfold sortE
  rw [asInts_map]
theorem bltSortedL (ns : List Int) : bltD "sorted" [.list (ns.map .int)] = some (.ow ((isort ns).map .int)) := by
  have e : bltD "sorted" [.list (ns.map .int)] = sortE (ns.map .int) := rfl
  rw [e]
  unfold sortE
  rw [asInts_map]
theorem addT {xs ys : List D} (h : xs.length + ys.length ≤ sline) : binD .Add (.tuple xs) (.tuple ys) = some (.im (.tuple (xs ++ ys))) := by
  have e : binD .Add (.tuple xs) (.tuple ys) = if xs.length + ys.length ≤ sline then some (.im (.tuple (xs ++ ys))) else none := rfl
  rw [e, if_pos h]
theorem addL {xs ys : List D} (h : xs.length + ys.length ≤ sline) : binD .Add (.list xs) (.list ys) = some (.ow (xs ++ ys)) := by
  have e : binD .Add (.list xs) (.list ys) = if xs.length + ys.length ≤ sline then some (.ow (xs ++ ys)) else none := rfl
  rw [e, if_pos h]
theorem inTup (xs : List Int) (k : Int) : cmpD .In (.int k) (daysD xs) = some (xs.any fun j => decide (k = j)) := by
  have h : (xs.map PyData.int).all flatD = true := by simp [flatD]
  unfold cmpD daysD
  simp only [h, flatD, Bool.and_self, if_true, inD, List.any_map]
  congr 2
  funext j
  simp only [Function.comp, PyData.eqv]
  by_cases e : j = k
  · subst e; simp
  · simp [e, Ne.symm e]
theorem notInTup (xs : List Int) (k : Int) : cmpD .NotIn (.int k) (daysD xs) = some (!xs.any fun j => decide (k = j)) := by
  have h : (xs.map PyData.int).all flatD = true := by simp [flatD]
  unfold cmpD daysD
  simp only [h, flatD, Bool.and_self, if_true, inD, List.any_map]
  congr 3
  funext j
  simp only [Function.comp, PyData.eqv]
  by_cases e : j = k
  · subst e; simp
  · simp [e, Ne.symm e]
def dS : Stmt := .Pass ⟨0, 0, 0, 0⟩
def forB : Stmt → List Stmt
  | .For _ _ b _ _ => b
  | _ => []
theorem rk {w : Rho → Stmt → (Fl → Prop) → Prop} {r : List Stmt} {Q : Fl → Prop} {ρ : Rho} {s : Stmt} (h : w ρ s (runK (wRunL w r) Q)) : runK (wRunL w (s :: r)) Q (.nx ρ) := h
end K11

set_option Elab.async false
set_option linter.all false
set_option maxRecDepth 100000
set_option maxHeartbeats 1000000
namespace K11
open PySem PySem.Spec L2 Dv
variable [TabC]
/-! ### what is looked at -/
structure OkLs (l : Ls) : Prop where
  dy : 0 ≤ l.1 ∧ l.1 ≤ 59
  pl : 1 ≤ l.2.1 ∧ l.2.1 ≤ 6
  la : 0 ≤ l.2.2 ∧ l.2.2 ≤ 100
structure Party (p : Ps) : Prop where
  pe : ∀ q ∈ p, 0 ≤ q ∧ q ≤ 9
  lt : p.Pairwise (· < ·)
  one : 1 ≤ p.length
  few : p.length ≤ 3
def OkDd : Dd → Prop
  | .wish h p => (0 ≤ h ∧ h ≤ 99) ∧ Party p
  | .leave h q => (0 ≤ h ∧ h ≤ 99) ∧ 0 ≤ q ∧ q ≤ 9
structure OkBk (ds : List Dd) : Prop where
  few : ds.length ≤ 24
  ok : ∀ d ∈ ds, OkDd d
  up : ds.Pairwise fun a b => ddLt a b = true
def fewD : Dd → Prop
  | .wish _ p => p.length ≤ 3
  | .leave _ _ => True
theorem OkDd.few {d : Dd} (h : OkDd d) : fewD d := by
  cases d with
  | wish h p => exact (show Party p from h.2).few
  | leave h q => trivial
theorem OkBk.fewD {ds : List Dd} (h : OkBk ds) : ∀ d ∈ ds, fewD d := fun d hd => (h.ok d hd).few
theorem isWhole_int (a b c : Int) : wRun isWhole [] [.im (.int a), .im (.int b), .im (.int c)] fun s bs => s = .im (.bool (decide (b ≤ a) && decide (a ≤ c))) ∧ bs = [] := by
  refine evFn_run (brB_t rfl ⟨_, rfl, brB_t rfl ⟨_, rfl, fun h => ⟨_, rfl, ?_⟩, fun h => ?_⟩⟩)
  · have h : decide (b ≤ a) = true := h
    rw [h]
    exact ⟨rfl, rfl⟩
  · have h : decide (b ≤ a) = false := h
    rw [h]
    exact ⟨rfl, rfl⟩
theorem whole_yes {a b c : Int} (h : b ≤ a ∧ a ≤ c) : wRun isWhole [] [.im (.int a), .im (.int b), .im (.int c)] fun s bs => s = .im (.bool true) ∧ bs = [] := by
  have e := isWhole_int a b c
  rw [decide_eq_true h.1, decide_eq_true h.2] at e
  exact e
theorem isPerson_ok {a : Int} (h : 0 ≤ a ∧ a ≤ 9) : wRun isPerson [] [.im (.int a)] fun s bs => s = .im (.bool true) ∧ bs = [] := evFn_run ⟨rfl, wr (whole_yes h) ⟨rfl, rfl, rfl⟩⟩
theorem isDay_ok {a : Int} (h : 0 ≤ a ∧ a ≤ 59) : wRun isDay [] [.im (.int a)] fun s bs => s = .im (.bool true) ∧ bs = [] := evFn_run ⟨rfl, wr (whole_yes h) ⟨rfl, rfl, rfl⟩⟩
theorem isHour_ok {a : Int} (h : 0 ≤ a ∧ a ≤ 99) : wRun isHour [] [.im (.int a)] fun s bs => s = .im (.bool true) ∧ bs = [] := evFn_run ⟨rfl, wr (whole_yes h) ⟨rfl, rfl, rfl⟩⟩
theorem isTriple3 (a b c : D) : wRun isTriple [] [.im (.tuple [a, b, c])] fun s bs => s = .im (.bool true) ∧ bs = [] := evFn_run (brB_t rfl ⟨_, rfl, _, rfl, rfl, rfl⟩)
theorem isLesson_ok {l : Ls} (h : OkLs l) : wRun isLesson [] [.im (lsD l)] fun s bs => s = .im (.bool true) ∧ bs = [] :=
  evFn_run ⟨rfl, wr (isTriple3 _ _ _) ⟨rfl, _, rfl, brB_f rfl ⟨_, rfl, rfl, wr (isDay_ok h.dy) ⟨rfl, brB_t rfl ⟨rfl, wr (whole_yes h.pl) ⟨rfl, brB_t rfl ⟨rfl, wr (whole_yes h.la) ⟨rfl, rfl, rfl⟩⟩⟩⟩⟩⟩⟩⟩
/-! rising -/
theorem cut1 (xs : List D) : cutD xs (some 1) none = xs.drop 1 := by
  unfold cutD
  rw [show HT.sIx xs.length 0 (some 1) = min 1 xs.length from HT.sIx_nat xs.length 0 1, HT.sIx_none]
  cases xs with
  | nil => rfl
  | cons x r =>
    rw [show min 1 (x :: r).length = 1 by simp]
    rw [List.take_of_length_le (by simp)]
def enP {α : Type} (enc : α → D) (p : α × α) : D := .tuple [enc p.1, enc p.2]
theorem zip_next {α : Type} (enc : α → D) (ps : List α) : zipD (ps.map enc) (cutD (ps.map enc) (some 1) none) = (ps.zip (ps.drop 1)).map (enP enc) := by
  rw [cut1, ← List.map_drop, zipD_eq, List.zip_map, List.map_map]
  rfl
theorem all_next {α : Type} (lt : α → α → Bool) : ∀ ps : List α, ps.Pairwise (fun a b => lt a b = true) → (ps.zip (ps.drop 1)).all (fun p => lt p.1 p.2) = true
  | [], _ => rfl
  | [x], _ => rfl
  | x :: y :: r, h => by
    rw [List.pairwise_cons] at h
    have ih := all_next lt (y :: r) h.2
    have := h.1 y List.mem_cons_self
    simp only [List.drop_succ_cons, List.drop_zero, List.zip_cons_cons, List.all_cons] at ih ⊢
    rw [ih, this]
    rfl
theorem listLt_ints : ∀ xs ys : List Int, ltDs (xs.map PyData.int) (ys.map PyData.int) = some (PySem.W.listLt xs ys)
  | [], [] => rfl
  | [], _ :: _ => rfl
  | _ :: _, [] => rfl
  | x :: xs, y :: ys => by
    rw [List.map_cons, List.map_cons, ltDs, DvS.eqv_i, DvS.key_cons]
    by_cases h : x = y
    · rw [if_pos h, decide_eq_true h, cond_true, listLt_ints xs ys]
    · rw [if_neg h, decide_eq_false h, cond_false]
      rfl
theorem ltDs_self : ∀ q : List Int, ltDs (q.map PyData.int) (q.map PyData.int) = some false
  | [] => rfl
  | x :: q => by
    rw [List.map_cons, ltDs, DvS.eqv_i, decide_eq_true rfl, cond_true]
    exact ltDs_self q
theorem ltD_dd (a b : Dd) : ltD (ddD a) (ddD b) = some (ddLt a b) := by
  have head : ∀ (h j : Int) (xs ys : List PyData) (k m : List Int), ltDs xs ys = some (PySem.W.listLt k m) → ltD (.tuple (.int h :: xs)) (.tuple (.int j :: ys)) = some (PySem.W.listLt (h :: k) (j :: m)) := fun h j xs ys k m e => by
    rw [ltD, ltDs, DvS.eqv_i, DvS.key_cons]
    by_cases z : h = j
    · rw [if_pos z, decide_eq_true z, cond_true, e]
    · rw [if_neg z, decide_eq_false z, cond_false]
      rfl
  unfold ddLt
  cases a with
  | leave h p =>
    cases b with
    | leave j q =>
      refine head h j _ _ _ _ ?_
      rw [ltDs, DvS.ll, cond_true, DvS.key_cons, if_pos rfl]
      exact listLt_ints [p] [q]
    | wish j q =>
      refine head h j _ _ _ _ ?_
      rw [ltDs, DvS.lw, cond_false, DvS.key_cons, if_neg (by decide)]
      exact (by decide +kernel : ltD (.str "leave") (.str "wish") = some (decide ((0 : Int) < 1)))
  | wish h p =>
    cases b with
    | leave j q =>
      refine head h j _ _ _ _ ?_
      rw [ltDs, DvS.wl, cond_false, DvS.key_cons, if_neg (by decide)]
      exact (by decide +kernel : ltD (.str "wish") (.str "leave") = some (decide ((1 : Int) < 0)))
    | wish j q =>
      refine head h j _ _ _ _ ?_
      rw [ltDs, DvS.ww, cond_true, DvS.key_cons, if_pos rfl, ltDs, DvS.eqv_t]
      by_cases z : p = q
      · rw [decide_eq_true z, cond_true, z]
        have : PySem.W.listLt q q = false := by
          have := listLt_ints q q
          rw [ltDs_self] at this
          exact (Option.some.inj this).symm
        rw [this]
        rfl
      · rw [decide_eq_false z, cond_false, ltD]
        exact listLt_ints p q
theorem canLay_ints (ns : List Int) : PyData.canLayAll0 (ns.map PyData.int) = true := by
  induction ns with
  | nil => rfl
  | cons n ns ih => simp [PyData.canLayAll0, PyData.canLay0, ih]
theorem shaped_dd (a : Dd) : SeqAt.shaped (ddD a) = true := by
  unfold SeqAt.shaped
  have := DvS.dd_depth a
  rw [Bool.and_eq_true, decide_eq_true_eq]
  refine ⟨?_, by omega⟩
  have s1 : PyData.strOk "leave" = true := by decide +kernel
  have s2 : PyData.strOk "wish" = true := by decide +kernel
  cases a with
  | leave h p => simp only [ddD, PyData.canLay0, PyData.canLayAll0, s1, Bool.and_self]
  | wish h ps => simp only [ddD, PyData.canLay0, PyData.canLayAll0, s2, canLay_ints, Bool.and_self]
theorem low_dd (a : Dd) : low (ddD a) = true := by
  unfold low
  have := DvS.dd_depth a
  rw [shaped_dd, Bool.true_and, decide_eq_true_eq]
  omega
theorem cmpLt_dd (a b : Dd) : cmpD .Lt (ddD a) (ddD b) = some (ddLt a b) := by
  have e := ltD_dd a b
  have l1 := low_dd a
  have l2 := low_dd b
  have go : ∀ xs ys : List D, low (.tuple xs) = true → low (.tuple ys) = true → cmpD .Lt (.tuple xs) (.tuple ys) = ltD (.tuple xs) (.tuple ys) := fun xs ys h1 h2 => by
    show (if (low (.tuple xs) && low (.tuple ys)) = true then ltD (.tuple xs) (.tuple ys) else none) = _
    rw [h1, h2]
    rfl
  cases a <;> cases b <;> exact (go _ _ l1 l2).trans e
end K11

set_option Elab.async false
set_option linter.all false
set_option maxRecDepth 100000
set_option maxHeartbeats 1000000
namespace K11
open PySem PySem.Spec L2 Dv
variable [TabC]
/-! ### the law's own defs -/
structure Box (bs : List D) : Prop where
  ex : ∃ a b : Int, bs = [.int a, .int b] ∧ 0 ≤ a
theorem bltDivmod {a m : Int} (h : 0 < m ∧ m < 1073741824) : bltD "divmod" [.int a, .int m] = some (.im (.tuple [.int (a / m), .int (a % m)])) := by
  have e : bltD "divmod" [.int a, .int m] = if 0 < m ∧ m < 1073741824 then some (.im (.tuple [.int (a / m), .int (a % m)])) else none := rfl
  rw [e, if_pos h]
theorem mulD {i j : Int} (h : cmul i j = true) : binD .Mult (.int i) (.int j) = some (.im (.int (i * j))) := by
  have e : binD .Mult (.int i) (.int j) = if cmul i j = true then some (.im (.int (i * j))) else none := rfl
  rw [e, if_pos h]
theorem modD {i j : Int} (h : 0 < j) : binD .Mod (.int i) (.int j) = some (.im (.int (i % j))) := by
  have e : binD .Mod (.int i) (.int j) = if 0 < j then some (.im (.int (i % j))) else none := rfl
  rw [e, if_pos h]
theorem cmul_r (i : Int) {j : Int} (h : -(2 ^ 64) < j ∧ j < 2 ^ 64) : cmul i j = true := by
  unfold cmul
  rw [Bool.or_eq_true]
  right
  simp only [Bool.and_eq_true, decide_eq_true_eq]
  exact h
/-- what a digit is -/
def IsDigit (m : Int) (s : Sl) (bs : List D) : Prop := ∃ k : Int, s = .im (.int k) ∧ (0 ≤ k ∧ k < m) ∧ Box bs
theorem take_ok {bs : List D} (hb : Box bs) {m : Int} (h0 : 0 < m) (h1 : m < 1073741824) : wRun lawTake bs [.im (.int m)] (IsDigit m) := by
  obtain ⟨a, b, rfl, ha⟩ := hb.ex
  refine evFn_run ⟨_, rfl, _, rfl, fun h => ?_, fun h => ?_⟩
  · refine ⟨_, rfl, _, bltDivmod ⟨h0, h1⟩, _, rfl, ?_⟩
    exact ⟨_, rfl, ⟨Int.emod_nonneg _ (by omega), Int.emod_lt_of_pos _ h0⟩, ⟨_, _, rfl, Int.ediv_nonneg ha (by omega)⟩⟩
  · refine ⟨_, rfl, _, mulD (cmul_r _ (by decide)), _, rfl, _, modD (by decide), _, rfl, _, rfl, _, rfl, _, rfl, _, rfl, ?_⟩
    have hx : 0 ≤ (b * 48271 + 11) % 2147483647 ∧ (b * 48271 + 11) % 2147483647 < 2147483647 := ⟨Int.emod_nonneg _ (by decide), Int.emod_lt_of_pos _ (by decide)⟩
    generalize (b * 48271 + 11) % 2147483647 = x at hx ⊢
    have hy : 0 ≤ x / 1009 + 1 ∧ x / 1009 + 1 < 3000000 := by omega
    generalize x / 1009 + 1 = y at hy ⊢
    refine ⟨_, mulD (cmul_r _ (by omega)), _, mulD (cmul_r _ (by omega)), _, modD (by decide), _, rfl, _, modD h0, ?_⟩
    exact ⟨_, rfl, ⟨Int.emod_nonneg _ (by omega), Int.emod_lt_of_pos _ h0⟩, ⟨_, _, rfl, ha⟩⟩
theorem tk {bs : List D} (hb : Box bs) {m : Int} (h0 : 0 < m) (h1 : m < 1073741824) {Q : Sl → List D → Prop} (p : ∀ k bs', 0 ≤ k → k < m → Box bs' → Q (.im (.int k)) bs') : wRun lawTake bs [.im (.int m)] Q :=
  wri (take_ok hb h0 h1) fun s r ⟨k, e, hk, b⟩ => by
    subst e
    exact p k r hk.1 hk.2 b
theorem cmul_l {i : Int} (j : Int) (h : -(2 ^ 64) < i ∧ i < 2 ^ 64) : cmul i j = true := by
  unfold cmul
  rw [Bool.or_eq_true]
  left
  simp only [Bool.and_eq_true, decide_eq_true_eq]
  exact h
theorem lawBox_ok (ns : List Int) (k : Nat) : wRun lawBox [] [.fz ns, .im (.int k)] fun s bs => bs = [] ∧ ∃ xs, s = .ow xs ∧ Box xs := by
  refine evFn_run ⟨_, mulD (cmul_l _ (by decide)), _, rfl, _, rfl, _, rfl, fun h => ?_, fun h => ?_⟩
  · have h : decide ((k : Int) < (ns.length : Int)) = true := h
    have hk : k < ns.length := by simpa using h
    refine ⟨_, atI_nat (List.getElem?_eq_getElem hk), _, rfl, ?_⟩
    generalize ns[k] = c
    refine ⟨_, modD (by decide), _, rfl, fun h => ?_, fun h => ?_⟩
    · refine ⟨_, rfl, _, rfl, _, modD (by decide), _, mulD (cmul_l _ (by decide)), _, rfl, _, rfl, ?_⟩
      refine ⟨(by show 2 ≤ 100000; decide), rfl, _, rfl, ⟨_, _, rfl, ?_⟩⟩
      have : 0 ≤ (if c < 0 then -c else c) := by split <;> omega
      omega
    · refine ⟨_, modD (by decide), _, mulD (cmul_l _ (by decide)), _, rfl, _, rfl, ?_⟩
      exact ⟨(by show 2 ≤ 100000; decide), rfl, _, rfl, ⟨_, _, rfl, Int.le_refl _⟩⟩
  · generalize 6151 * (k : Int) + 29 = c
    refine ⟨_, modD (by decide), _, rfl, fun h => ?_, fun h => ?_⟩
    · refine ⟨_, rfl, _, rfl, _, modD (by decide), _, mulD (cmul_l _ (by decide)), _, rfl, _, rfl, ?_⟩
      refine ⟨(by show 2 ≤ 100000; decide), rfl, _, rfl, ⟨_, _, rfl, ?_⟩⟩
      have : 0 ≤ (if c < 0 then -c else c) := by split <;> omega
      omega
    · refine ⟨_, modD (by decide), _, mulD (cmul_l _ (by decide)), _, rfl, _, rfl, ?_⟩
      exact ⟨(by show 2 ≤ 100000; decide), rfl, _, rfl, ⟨_, _, rfl, Int.le_refl _⟩⟩
/-- one of three, told by a digit -/
theorem pick3 (a b c : D) {k : Int} (h0 : 0 ≤ k) (h1 : k < 3) : ∃ d, ixD (.list [a, b, c]) (.int k) = some d ∧ (d = a ∨ d = b ∨ d = c) := by
  have : k = 0 ∨ k = 1 ∨ k = 2 := by omega
  rcases this with rfl | rfl | rfl
  · exact ⟨_, rfl, .inl rfl⟩
  · exact ⟨_, rfl, .inr (.inl rfl)⟩
  · exact ⟨_, rfl, .inr (.inr rfl)⟩
theorem pick4 (a b c e : D) {k : Int} (h0 : 0 ≤ k) (h1 : k < 4) : ∃ d, ixD (.list [a, b, c, e]) (.int k) = some d ∧ (d = a ∨ d = b ∨ d = c ∨ d = e) := by
  have : k = 0 ∨ k = 1 ∨ k = 2 ∨ k = 3 := by omega
  rcases this with rfl | rfl | rfl | rfl
  · exact ⟨_, rfl, .inl rfl⟩
  · exact ⟨_, rfl, .inr (.inl rfl)⟩
  · exact ⟨_, rfl, .inr (.inr (.inl rfl))⟩
  · exact ⟨_, rfl, .inr (.inr (.inr rfl))⟩
def natD (i : Nat) : D := .int (i : Nat)
theorem range_nat (n : Nat) : rangeD n = (List.range n).map natD := rfl
theorem ints_of {r : List D} {m : Int} (h : ∀ e ∈ r, ∃ k : Int, e = .int k ∧ 0 ≤ k ∧ k < m) : ∃ ns : List Int, r = ns.map .int ∧ ∀ k ∈ ns, 0 ≤ k ∧ k < m := by
  induction r with
  | nil => exact ⟨[], rfl, fun k h => (by cases h)⟩
  | cons e r ih =>
    obtain ⟨ns, h1, h2⟩ := ih fun e he => h e (List.mem_cons_of_mem _ he)
    obtain ⟨k, h3, h4⟩ := h e List.mem_cons_self
    refine ⟨k :: ns, by rw [h1, h3]; rfl, fun j hj => ?_⟩
    rcases List.mem_cons.mp hj with z | z
    · rw [z]; exact h4
    · exact h2 j z
theorem dd_len : ∀ ns : List Int, (dd ns).length ≤ ns.length
  | [] => Nat.le_refl _
  | x :: r => by
    unfold dd
    split
    · have := dd_len r; simp; omega
    · have := dd_len r; simp; omega
theorem usort_len (ns : List Int) : (usort ns).length ≤ ns.length := by
  unfold usort
  rw [(isort_perm _).length_eq]
  exact dd_len ns

def LessonOut (s : Sl) (bs : List D) : Prop := Box bs ∧ ∃ l, s = .im (lsD l) ∧ OkLs l
theorem lawLesson_ok {bs : List D} (hb : Box bs) : wRun lawLesson bs [] LessonOut := by
  refine evFn_run ⟨rfl, tk hb (by decide) (by decide) fun k b1 k0 k1 hb1 => ⟨_, rfl, (by show 4 ≤ 100000; decide), rfl, tk hb1 (by decide) (by decide) fun j b2 j0 j1 hb2 => ?_⟩⟩
  obtain ⟨d, e1, hd⟩ := pick4 (.int 1) (.int 2) (.int 6) (.int (1 + k)) j0 j1
  obtain ⟨m, rfl, hm⟩ : ∃ m : Int, d = .int m ∧ 1 ≤ m ∧ m ≤ 6 := by
    rcases hd with rfl | rfl | rfl | rfl
    · exact ⟨1, rfl, by decide, by decide⟩
    · exact ⟨2, rfl, by decide, by decide⟩
    · exact ⟨6, rfl, by decide, by decide⟩
    · exact ⟨1 + k, rfl, by omega, by omega⟩
  refine ⟨_, e1, _, rfl, rfl, tk hb2 (by decide) (by decide) fun y b3 y0 y1 hb3 => ⟨rfl, tk hb3 (by decide) (by decide) fun z b4 z0 z1 hb4 => ⟨(by show 4 ≤ 100000; decide), rfl, tk hb4 (by decide) (by decide) fun i b5 i0 i1 hb5 => ?_⟩⟩⟩
  obtain ⟨d, e2, hd⟩ := pick4 (.int 0) (.int 24) (.int 100) (.int z) i0 i1
  obtain ⟨n, rfl, hn⟩ : ∃ n : Int, d = .int n ∧ 0 ≤ n ∧ n ≤ 100 := by
    rcases hd with rfl | rfl | rfl | rfl
    · exact ⟨0, rfl, by decide, by decide⟩
    · exact ⟨24, rfl, by decide, by decide⟩
    · exact ⟨100, rfl, by decide, by decide⟩
    · exact ⟨z, rfl, by omega, by omega⟩
  refine ⟨_, e2, (by show 3 ≤ 100000; decide), ?_⟩
  exact ⟨hb5, (y, m, n), rfl, ⟨y0, by omega⟩, hm, hn⟩
def PartyOut (s : Sl) (bs : List D) : Prop := Box bs ∧ ∃ p, s = .im (daysD p) ∧ Party p
theorem lawParty_ok {bs : List D} (hb : Box bs) {m : Int} (h0 : 0 < m) (h1 : m ≤ 10) : wRun lawParty bs [.im (.int m)] PartyOut := by
  refine evFn_run ⟨(by show 4 ≤ 100000; decide), rfl, tk hb (by decide) (by decide) fun k b2 k0 k1 hb2 => ?_⟩
  obtain ⟨d, e2, hd⟩ := pick4 (.int 1) (.int 1) (.int 2) (.int 3) k0 k1
  obtain ⟨n, rfl, hn⟩ : ∃ n : Nat, d = .int (n : Int) ∧ 1 ≤ n ∧ n ≤ 3 := by
    rcases hd with rfl | rfl | rfl | rfl
    · exact ⟨1, rfl, by decide, by decide⟩
    · exact ⟨1, rfl, by decide, by decide⟩
    · exact ⟨2, rfl, by decide, by decide⟩
    · exact ⟨3, rfl, by decide, by decide⟩
  refine ⟨_, e2, ⟨by omega, by omega⟩, ?_⟩
  refine loop_anyQ natD (fun e => ∃ k : Int, e = .int k ∧ 0 ≤ k ∧ k < m) (fun ρ => ∃ b, Box b ∧ ρ = [some (.ow b), some (.im (.int m)), none, none]) (xs := List.range n) (by rw [Int.toNat_natCast]; exact range_nat n) (by simp [sline]; omega) ⟨b2, hb2, rfl⟩ (fun i hi ρ hρ => ?_) (fun r ρ' hρ hl hr => ?_)
  · obtain ⟨b, hb3, rfl⟩ := hρ
    obtain ⟨s, b4, e4, k4, rfl, hk4, hb4⟩ := take_ok hb3 h0 (by omega)
    exact ⟨.int k4, wTurnI_ok ⟨_, rfl, rfl, _, _, e4, ⟨b4, hb4, rfl⟩, rfl⟩, k4, rfl, hk4⟩
  · obtain ⟨b, hb3, rfl⟩ := hρ
    obtain ⟨ns, rfl, hns⟩ := ints_of hr
    have hl' : ns.length = n := by simpa using hl
    refine ⟨_, rfl, ns, asInts_map ns, by rw [List.length_map]; omega, _, rfl, hb3, usort ns, rfl, fun q hq => ?_, usort_lt ns, ?_, ?_⟩
    · have := hns q ((mem_usort ns).mp hq)
      omega
    · cases ns with
      | nil => simp at hl'; omega
      | cons x xs =>
        have : x ∈ usort (x :: xs) := (mem_usort _).mpr List.mem_cons_self
        exact List.length_pos_of_mem this
    · have := usort_len ns
      omega
def HourOut (s : Sl) (bs : List D) : Prop := Box bs ∧ ∃ h : Int, s = .im (.int h) ∧ 0 ≤ h ∧ h ≤ 99
def mn (i j : Int) : Int := if j < i then j else i
theorem mn_le (i j : Int) : mn i j ≤ i ∧ (mn i j = i ∨ mn i j = j) := by unfold mn; split <;> omega
theorem bltMin2 (i j : Int) : bltD "min" [.int i, .int j] = some (.im (.int (mn i j))) := rfl
theorem lawHour_ok {bs : List D} (hb : Box bs) {l : Ls} (hl : OkLs l) : wRun lawHour bs [.im (lsD l)] HourOut := by
  have h1 := hl.la
  have m1 := mn_le 99 (100 - l.2.2)
  have m2 := mn_le 99 (100 - l.2.2 + 1)
  refine evFn_run ⟨_, rfl, _, rfl, _, rfl, rfl, tk hb (by decide) (by decide) fun k b1 k0 k1 hb1 => ⟨_, bltMin2 _ _, _, rfl, _, bltMin2 _ _, rfl, tk hb1 (by decide) (by decide) fun j b2 j0 j1 hb2 => ⟨(by show 4 ≤ 100000; decide), _, rfl, rfl, tk hb2 (by decide) (by decide) fun i b3 i0 i1 hb3 => ?_⟩⟩⟩
  obtain ⟨d, e1, hd⟩ := pick4 (.int k) (.int (mn 99 (100 - l.2.2))) (.int (mn 99 (100 - l.2.2 + 1))) (.int j) i0 i1
  refine ⟨_, e1, hb3, ?_⟩
  rcases hd with rfl | rfl | rfl | rfl
  · exact ⟨k, rfl, by omega, by omega⟩
  · exact ⟨_, rfl, by omega, by omega⟩
  · exact ⟨_, rfl, by omega, by omega⟩
  · exact ⟨j, rfl, by omega, by omega⟩
def DeedOut (s : Sl) (bs : List D) : Prop := Box bs ∧ ∃ d, s = .im (ddD d) ∧ OkDd d
theorem lawDeed_ok {bs : List D} (hb : Box bs) {l : Ls} (hl : OkLs l) {m : Int} (h0 : 0 < m) (h1 : m ≤ 10) : wRun lawDeed bs [.im (lsD l), .im (.int m)] DeedOut := by
  refine evFn_run ⟨rfl, wri (lawHour_ok hb hl) fun s b1 ⟨hb1, h, e, hh⟩ => ?_⟩
  subst e
  refine ⟨_, rfl, rfl, tk hb1 (by decide) (by decide) fun k b2 k0 k1 hb2 => ⟨_, rfl, fun hc => ?_, fun hc => ?_⟩⟩
  · refine ⟨rfl, wri (lawParty_ok hb2 h0 h1) fun s b3 ⟨hb3, p, e, hp⟩ => ?_⟩
    subst e
    exact ⟨(by show 3 ≤ 100000; decide), hb3, .wish h p, rfl, hh, hp⟩
  · exact ⟨rfl, tk hb2 h0 (by omega) fun q b3 q0 q1 hb3 => ⟨(by show 3 ≤ 100000; decide), hb3, .leave h q, rfl, hh, q0, by omega⟩⟩
end K11

set_option Elab.async false
set_option linter.all false
set_option maxRecDepth 100000
set_option maxHeartbeats 400000
namespace K11
open PySem PySem.Spec L2 Dv
variable [TabC]
/-! ### things of whatever kind -/
def tells (f : Fn) (d : D) (b : Bool) : Prop := wRun f [] [.im d] fun s bs => s = .im (.bool b) ∧ bs = []
def isWholeB (d : D) (a b : Int) : Bool := match d with
  | .int i => decide (a ≤ i) && decide (i ≤ b)
  | _ => false
theorem plain_dict {kvs : List (D × D)} (h : plainD (.dict kvs) = true) : kvs = [] ∨ ∃ i j, kvs = [(.int i, .int j)] := by
  match kvs, h with
  | [], _ => exact .inl rfl
  | [(.int i, .int j)], _ => exact .inr ⟨i, j, rfl⟩
/-- by kinds: a thing that is no tuple -/
theorem kinds {p : D → Prop} {d : D} (h : plainD d = true) (h1 : p .none) (h2 : ∀ b, p (.bool b)) (h3 : ∀ i, p (.int i)) (h4 : ∀ x, p (.str x)) (h5 : ∀ ds, p (.list ds)) (h6 : p (.dict [])) (h7 : ∀ i j, p (.dict [(.int i, .int j)])) (h8 : ∀ ds, plainDs ds = true → p (.tuple ds)) : p d := by
  cases d with
  | int i => exact h3 i
  | bool v => exact h2 v
  | none => exact h1
  | str x => exact h4 x
  | tuple ds => exact h8 ds (by simpa only [plainD] using h)
  | list ds => exact h5 ds
  | dict kvs =>
    rcases plain_dict h with rfl | ⟨i, j, rfl⟩
    · exact h6
    · exact h7 i j
theorem isWhole_any {d : D} (h : plainD d = true) (a b : Int) : wRun isWhole [] [.im d, .im (.int a), .im (.int b)] fun s bs => s = .im (.bool (isWholeB d a b)) ∧ bs = [] :=
  kinds (p := fun d => wRun isWhole [] [.im d, .im (.int a), .im (.int b)] fun s bs => s = .im (.bool (isWholeB d a b)) ∧ bs = []) h (evFn_run (brB_f rfl ⟨rfl, rfl⟩)) (fun _ => evFn_run (brB_t rfl ⟨_, rfl, brB_f rfl ⟨rfl, rfl⟩⟩)) (fun i => isWhole_int i a b) (fun _ => evFn_run (brB_f rfl ⟨rfl, rfl⟩)) (fun _ => evFn_run (brB_f rfl ⟨rfl, rfl⟩)) (evFn_run (brB_f rfl ⟨rfl, rfl⟩)) (fun _ _ => evFn_run (brB_f rfl ⟨rfl, rfl⟩)) (fun _ _ => evFn_run (brB_f rfl ⟨rfl, rfl⟩))
theorem fromTo_int (a b c : Int) : wRun lawFromTo [] [.im (.int a), .im (.int b), .im (.int c)] fun s bs => s = .im (.bool (decide (b ≤ a) && decide (a ≤ c))) ∧ bs = [] := by
  refine evFn_run (brB_t rfl ⟨_, rfl, brB_t rfl ⟨_, rfl, fun h => ⟨_, rfl, ?_⟩, fun h => ?_⟩⟩)
  · have h : decide (b ≤ a) = true := h
    rw [h]
    exact ⟨rfl, rfl⟩
  · have h : decide (b ≤ a) = false := h
    rw [h]
    exact ⟨rfl, rfl⟩
theorem fromTo_any {d : D} (h : plainD d = true) (a b : Int) : wRun lawFromTo [] [.im d, .im (.int a), .im (.int b)] fun s bs => s = .im (.bool (isWholeB d a b)) ∧ bs = [] :=
  kinds (p := fun d => wRun lawFromTo [] [.im d, .im (.int a), .im (.int b)] fun s bs => s = .im (.bool (isWholeB d a b)) ∧ bs = []) h (evFn_run (brB_f rfl ⟨rfl, rfl⟩)) (fun _ => evFn_run (brB_t rfl ⟨_, rfl, brB_f rfl ⟨rfl, rfl⟩⟩)) (fun i => fromTo_int i a b) (fun _ => evFn_run (brB_f rfl ⟨rfl, rfl⟩)) (fun _ => evFn_run (brB_f rfl ⟨rfl, rfl⟩)) (evFn_run (brB_f rfl ⟨rfl, rfl⟩)) (fun _ _ => evFn_run (brB_f rfl ⟨rfl, rfl⟩)) (fun _ _ => evFn_run (brB_f rfl ⟨rfl, rfl⟩))
def isDayB (d : D) : Bool := isWholeB d 0 59
def isPersonB (d : D) : Bool := isWholeB d 0 9
def isHourB (d : D) : Bool := isWholeB d 0 99
theorem isDay_any {d : D} (h : plainD d = true) : tells isDay d (isDayB d) := evFn_run ⟨rfl, wr (isWhole_any h 0 59) ⟨rfl, rfl, rfl⟩⟩
theorem isPerson_any {d : D} (h : plainD d = true) : tells isPerson d (isPersonB d) := evFn_run ⟨rfl, wr (isWhole_any h 0 9) ⟨rfl, rfl, rfl⟩⟩
theorem isHour_any {d : D} (h : plainD d = true) : tells isHour d (isHourB d) := evFn_run ⟨rfl, wr (isWhole_any h 0 99) ⟨rfl, rfl, rfl⟩⟩
theorem isWholeB_int {d : D} {a b : Int} (h : isWholeB d a b = true) : ∃ i, d = .int i ∧ a ≤ i ∧ i ≤ b := by
  unfold isWholeB at h
  split at h
  · simp only [Bool.and_eq_true, decide_eq_true_eq] at h
    exact ⟨_, rfl, h⟩
  · cases h
def isTripleB : D → Bool
  | .tuple ds => decide (ds.length = 3)
  | _ => false
theorem isTriple_any {d : D} (h : plainD d = true) : tells isTriple d (isTripleB d) := by
  refine kinds (p := fun d => tells isTriple d (isTripleB d)) h (evFn_run (brB_f rfl ⟨rfl, rfl⟩)) (fun _ => evFn_run (brB_f rfl ⟨rfl, rfl⟩)) (fun i => evFn_run (brB_f rfl ⟨rfl, rfl⟩)) (fun _ => evFn_run (brB_f rfl ⟨rfl, rfl⟩)) (fun _ => evFn_run (brB_f rfl ⟨rfl, rfl⟩)) (evFn_run (brB_f rfl ⟨rfl, rfl⟩)) (fun _ _ => evFn_run (brB_f rfl ⟨rfl, rfl⟩)) (fun ds _ => ?_)
  refine evFn_run (brB_t rfl ⟨_, rfl, _, rfl, ?_, rfl⟩)
  show Sl.im (.bool (PyData.eqv (.int (ds.length : Nat)) (.int 3))) = _
  rw [eqI]
  congr 2
  exact decide_eq_decide.mpr (by omega)
theorem triple_of {d : D} (h : isTripleB d = true) : ∃ a b c, d = .tuple [a, b, c] := by
  unfold isTripleB at h
  split at h
  · rename_i ds
    have hl := of_decide_eq_true h
    match ds, hl with
    | [a, b, c], _ => exact ⟨a, b, c, rfl⟩
  · cases h
theorem plain3 {a b c : D} (h : plainD (.tuple [a, b, c]) = true) : plainD a = true ∧ plainD b = true ∧ plainD c = true := by
  simp only [plainD, plainDs, Bool.and_eq_true, and_true] at h
  exact h
theorem plain_mem : ∀ {ds : List D}, plainDs ds = true → ∀ d ∈ ds, plainD d = true
  | [], _, d, h => by cases h
  | e :: ds, h, d, hd => by
    simp only [plainDs, Bool.and_eq_true] at h
    rcases List.mem_cons.mp hd with z | z
    · rw [z]; exact h.1
    · exact plain_mem h.2 d z
theorem bltAllD (xs : List D) (p : D → Bool) : bltD "all" [.list ([] ++ xs.filterMap fun x => some (PyData.bool (p x)))] = some (.im (.bool (xs.all p))) := bltAll xs p
theorem mapId (xs : List D) : xs = xs.map fun d => d := by simp
def isLessonB : D → Bool
  | .tuple [a, b, c] => isDayB a && (isWholeB b 1 6 && isWholeB c 0 100)
  | _ => false
theorem lesson_no {d : D} (h : isTripleB d = false) : isLessonB d = false := by
  unfold isLessonB
  split
  · simp [isTripleB] at h
  · rfl
theorem isLesson_any {d : D} (h : plainD d = true) : tells isLesson d (isLessonB d) := by
  have t := isTriple_any h
  cases ht : isTripleB d with
  | false =>
    rw [ht] at t
    rw [lesson_no ht]
    exact evFn_run ⟨rfl, wr t ⟨rfl, _, rfl, brB_t rfl ⟨rfl, rfl⟩⟩⟩
  | true =>
    rw [ht] at t
    obtain ⟨a, b, c, rfl⟩ := triple_of ht
    obtain ⟨pa, pb, pc⟩ := plain3 h
    refine evFn_run ⟨rfl, wr t ⟨rfl, _, rfl, brB_f rfl ⟨_, rfl, rfl, wr (isDay_any pa) ⟨rfl, ?_⟩⟩⟩⟩
    show brB (isDayB a) _ _
    cases ha : isDayB a with
    | false => exact brB_f rfl ⟨by simp [isLessonB, ha], rfl⟩
    | true =>
      refine brB_t rfl ⟨rfl, wr (isWhole_any pb 1 6) ⟨rfl, ?_⟩⟩
      show brB (isWholeB b 1 6) _ _
      cases hb : isWholeB b 1 6 with
      | false => exact brB_f rfl ⟨by simp [isLessonB, ha, hb], rfl⟩
      | true => exact brB_t rfl ⟨rfl, wr (isWhole_any pc 0 100) ⟨rfl, by simp [isLessonB, ha, hb], rfl⟩⟩
theorem lawIsLesson_any {d : D} (h : plainD d = true) : tells lawIsLesson d (isLessonB d) := by
  refine kinds (p := fun d => plainD d = true → tells lawIsLesson d (isLessonB d)) h (fun _ => evFn_run ⟨_, rfl, brB_t rfl (brB_t rfl ⟨rfl, rfl⟩)⟩) (fun _ _ => evFn_run ⟨_, rfl, brB_t rfl (brB_t rfl ⟨rfl, rfl⟩)⟩) (fun _ _ => evFn_run ⟨_, rfl, brB_t rfl (brB_t rfl ⟨rfl, rfl⟩)⟩) (fun _ _ => evFn_run ⟨_, rfl, brB_t rfl (brB_t rfl ⟨rfl, rfl⟩)⟩) (fun _ _ => evFn_run ⟨_, rfl, brB_t rfl (brB_t rfl ⟨rfl, rfl⟩)⟩) (fun _ => evFn_run ⟨_, rfl, brB_t rfl (brB_t rfl ⟨rfl, rfl⟩)⟩) (fun _ _ _ => evFn_run ⟨_, rfl, brB_t rfl (brB_t rfl ⟨rfl, rfl⟩)⟩) (fun ds _ h => ?_) h
  refine evFn_run ⟨_, rfl, brB_f rfl ⟨_, rfl, _, rfl, ?_⟩⟩
  show brB (!PyData.eqv (.int (ds.length : Nat)) (.int 3)) _ _
  rw [eqI]
  by_cases hl : ds.length = 3
  · match ds, hl with
    | [a, b, c], _ =>
      obtain ⟨pa, pb, pc⟩ := plain3 h
      refine brB_f rfl ⟨a, rfl, rfl, wr (fromTo_any pa 0 59) ⟨rfl, _, rfl, ?_⟩⟩
      show brB (!isDayB a) _ _
      cases ha : isDayB a with
      | false => exact brB_t rfl ⟨by simp [isLessonB, ha], rfl⟩
      | true =>
        refine brB_f rfl ⟨b, rfl, rfl, wr (fromTo_any pb 1 6) ⟨rfl, ?_⟩⟩
        show brB (isWholeB b 1 6) _ _
        cases hb : isWholeB b 1 6 with
        | false => exact brB_f rfl ⟨by simp [isLessonB, ha, hb], rfl⟩
        | true => exact brB_t rfl ⟨c, rfl, rfl, wr (fromTo_any pc 0 100) ⟨rfl, by simp [isLessonB, ha, hb], rfl⟩⟩
  · refine brB_t (by rw [decide_eq_false (by omega)]; rfl) (brB_t rfl ⟨?_, rfl⟩)
    rw [lesson_no (by simp [isTripleB, hl])]
end K11

set_option Elab.async false
set_option linter.all false
set_option maxRecDepth 100000
set_option maxHeartbeats 400000
namespace K11
open PySem PySem.Spec L2 Dv
variable [TabC]
/-! parties, deeds, books among things of whatever kind -/
/-- known, and not too large -/
structure Pd (d : D) : Prop where
  pd : plainD d = true
  bk : d.bulk ≤ 500000
theorem bulk_mem : ∀ {ds : List D} {e : D}, e ∈ ds → e.bulk + 1 ≤ PyData.bulkAll ds
  | [], _, h => by cases h
  | d :: ds, e, h => by
    simp only [PyData.bulkAll]
    rcases List.mem_cons.mp h with z | z
    · subst z; omega
    · have := bulk_mem z; omega
theorem bulk_len : ∀ ds : List D, ds.length ≤ PyData.bulkAll ds
  | [] => Nat.le_refl _
  | d :: ds => by
    have := bulk_len ds
    simp only [PyData.bulkAll, List.length_cons]
    omega
theorem Pd.mem {ds : List D} (h : Pd (.tuple ds)) {e : D} (he : e ∈ ds) : Pd e := ⟨plain_mem (by simpa only [plainD] using h.pd) e he, by have := bulk_mem he; have := h.bk; simp only [PyData.bulk] at this; omega⟩
theorem Pd.len {ds : List D} (h : Pd (.tuple ds)) : ds.length ≤ 500000 := by
  have := bulk_len ds
  have := h.bk
  simp only [PyData.bulk] at this
  omega
def upsI (ns : List Int) : Bool := (ns.zip (ns.drop 1)).all fun p => decide (p.1 < p.2)
def upsD (ds : List Dd) : Bool := (ds.zip (ds.drop 1)).all fun p => ddLt p.1 p.2
def upB (ds : List D) : Bool := match asInts ds with
  | some ns => upsI ns
  | none => false
def upDB (ds : List D) : Bool := match asDds ds with
  | some ns => upsD ns
  | none => false
theorem upB_ints (ns : List Int) : upB (ns.map .int) = upsI ns := by unfold upB; rw [asInts_map]
theorem upDB_dds (ns : List Dd) : upDB (ns.map ddD) = upsD ns := by unfold upDB; rw [asDds_map]
theorem ints_all {p : D → Bool} (hp : ∀ d, p d = true → ∃ i, d = .int i) {ds : List D} (h : ds.all p = true) : ∃ ns : List Int, ds = ns.map .int := by
  induction ds with
  | nil => exact ⟨[], rfl⟩
  | cons d ds ih =>
    simp only [List.all_cons, Bool.and_eq_true] at h
    obtain ⟨i, rfl⟩ := hp d h.1
    obtain ⟨ns, e⟩ := ih h.2
    exact ⟨i :: ns, by rw [e]; rfl⟩
theorem person_int (d : D) (h : isPersonB d = true) : ∃ i, d = .int i := by
  obtain ⟨i, e, _⟩ := isWholeB_int h
  exact ⟨i, e⟩
def risePB : D → Bool
  | .tuple ds => ds.all isPersonB && upB ds
  | _ => false
theorem zip_len {α β : Type} (xs : List α) (ys : List β) : (xs.zip ys).length ≤ xs.length := by rw [List.length_zip]; exact Nat.min_le_left _ _
theorem rising_any {d : D} (h : Pd d) : wRun areRising [] [.im d, .fn "is_person"] fun s bs => s = .im (.bool (risePB d)) ∧ bs = [] := by
  refine kinds (p := fun d => Pd d → wRun areRising [] [.im d, .fn "is_person"] fun s bs => s = .im (.bool (risePB d)) ∧ bs = []) h.pd (fun _ => evFn_run ⟨_, rfl, brB_t rfl (brB_t rfl ⟨rfl, rfl⟩)⟩) (fun _ _ => evFn_run ⟨_, rfl, brB_t rfl (brB_t rfl ⟨rfl, rfl⟩)⟩) (fun _ _ => evFn_run ⟨_, rfl, brB_t rfl (brB_t rfl ⟨rfl, rfl⟩)⟩) (fun _ _ => evFn_run ⟨_, rfl, brB_t rfl (brB_t rfl ⟨rfl, rfl⟩)⟩) (fun _ _ => evFn_run ⟨_, rfl, brB_t rfl (brB_t rfl ⟨rfl, rfl⟩)⟩) (fun _ => evFn_run ⟨_, rfl, brB_t rfl (brB_t rfl ⟨rfl, rfl⟩)⟩) (fun _ _ _ => evFn_run ⟨_, rfl, brB_t rfl (brB_t rfl ⟨rfl, rfl⟩)⟩) (fun ds hp h => ?_) h
  have hl := h.len
  refine evFn_run ⟨_, rfl, brB_f rfl ?_⟩
  refine loop_mapQ (fun d => d) (fun d => some (.bool (isPersonB d))) (xs := ds) (mapId ds) (by simp [sline]; omega) (fun d hd => wTurn_ok ⟨_, rfl, rfl, wr (isPerson_any (h.mem hd).pd) ⟨rfl, rfl, rfl⟩⟩) ?_
  refine ⟨_, bltAllD ds isPersonB, _, rfl, ?_⟩
  show brB (!ds.all isPersonB) _ _
  cases ha : ds.all isPersonB with
  | false => exact brB_t rfl ⟨by simp only [risePB, ha, Bool.false_and], rfl⟩
  | true =>
    obtain ⟨ns, rfl⟩ := ints_all person_int ha
    rw [List.length_map] at hl
    have zl := zip_len ns (ns.drop 1)
    refine brB_f rfl ⟨_, _, rfl, _, _, rfl, _, rfl, ?_⟩
    refine loop_mapQ (enP PyData.int) (fun p => some (.bool (decide (p.1 < p.2)))) (zip_next PyData.int ns) (by simp only [sline]; omega) (fun p hp => wTurn_ok ⟨_, rfl, _, rfl, rfl, rfl⟩) ?_
    refine ⟨_, bltAll (ns.zip (ns.drop 1)) fun p => decide (p.1 < p.2), ?_, rfl⟩
    simp only [risePB, ha, upB_ints, upsI, Bool.true_and]
def isPartyB : D → Bool
  | .tuple ds => ds.all isPersonB && upB ds && (decide (1 ≤ ds.length) && decide (ds.length ≤ 3))
  | _ => false
theorem party_no {d : D} (h : risePB d = false) : isPartyB d = false := by
  cases d with
  | tuple ds =>
    have h : (ds.all isPersonB && upB ds) = false := h
    simp only [isPartyB, h, Bool.false_and]
  | _ => rfl
theorem isParty_any {d : D} (h : Pd d) : tells isParty d (isPartyB d) := by
  have t := rising_any h
  refine evFn_run ⟨rfl, wr t ⟨rfl, ?_⟩⟩
  show brB (risePB d) _ _
  cases hr : risePB d with
  | false =>
    exact brB_f rfl ⟨by rw [party_no hr], rfl⟩
  | true =>
    unfold risePB at hr
    split at hr
    · rename_i ds
      refine brB_t rfl ⟨_, rfl, _, rfl, ?_⟩
      show brB (decide ((1 : Int) ≤ (ds.length : Nat))) _ _
      by_cases h1 : 1 ≤ ds.length
      · refine brB_t (decide_eq_true (by omega)) ⟨_, rfl, ?_, rfl⟩
        simp only [isPartyB, hr, h1, decide_true, Bool.true_and]
        congr 2
        exact decide_eq_decide.mpr (by omega)
      · refine brB_f (decide_eq_false (by omega)) ⟨?_, rfl⟩
        simp only [isPartyB, hr, h1, decide_false, Bool.true_and, Bool.false_and]
    · cases hr
theorem any_not {α : Type} (p : α → Bool) : ∀ xs : List α, (xs.filterMap fun x => if (!p x) = true then some (PyData.int 1) else none).isEmpty = xs.all p
  | [] => rfl
  | x :: xs => by
    have ih := any_not p xs
    cases hx : p x with
    | true => rw [List.filterMap_cons_none (by rw [if_neg (by rw [hx]; decide)]), ih, List.all_cons, hx, Bool.true_and]
    | false =>
      rw [List.filterMap_cons_some (b := .int 1) (by rw [if_pos (by rw [hx]; rfl)]), List.all_cons, hx]
      rfl
theorem ones {α : Type} (p : α → Bool) : ∀ xs : List α, ∃ ns : List Int, (xs.filterMap fun x => if p x = true then some (PyData.int 1) else none) = ns.map .int
  | [] => ⟨[], rfl⟩
  | x :: xs => by
    obtain ⟨ns, e⟩ := ones p xs
    cases hx : p x
    · exact ⟨ns, by simp [hx, e]⟩
    · exact ⟨1 :: ns, by simp [hx, e]⟩
theorem eqNil (ns : List Int) : cmpD .Eq (.list (ns.map .int)) (.list []) = some (ns.map PyData.int).isEmpty := by
  have s : ∀ ns : List Int, SeqAt.shaped (.list (ns.map PyData.int)) = true := fun ns => by
    unfold SeqAt.shaped
    have : PyData.depthAll (ns.map PyData.int) = 0 := PySem.W.depth_ints ns
    simp [PyData.canLay0, canLay_ints, PyData.depth, this]
  have s0 : SeqAt.shaped (.list []) = true := s []
  have e : PyData.eqv (.list (ns.map .int)) (.list []) = (ns.map PyData.int).isEmpty := by
    cases ns <;> simp [PyData.eqv, PyData.eqvAll]
  unfold cmpD eqOk
  simp only [s, s0, e, Bool.and_self, Bool.or_true, if_true]
theorem lawRising_ints (ns : List Int) (hl : ns.length ≤ 500000) : wRun lawRising [] [.im (.tuple (ns.map .int))] fun s bs => s = .im (.bool (upsI ns)) ∧ bs = [] := by
  have zl := zip_len ns (ns.drop 1)
  refine evFn_run ⟨_, _, rfl, _, _, rfl, _, rfl, ?_⟩
  refine loop_mapQ (enP PyData.int) (fun p => if (!decide (p.1 < p.2)) = true then some (PyData.int 1) else none) (zip_next PyData.int ns) (by simp only [sline]; omega) (fun p hp => wTurn_ok ⟨_, rfl, _, rfl, fun hb => ⟨rfl, by rw [if_pos hb]⟩, fun hb => ⟨rfl, by rw [if_neg (by rw [hb]; decide)]⟩⟩) ?_
  obtain ⟨ms, e⟩ := ones (fun p : Int × Int => !decide (p.1 < p.2)) (ns.zip (ns.drop 1))
  refine ⟨(by show 0 ≤ 100000; decide), ?_⟩
  rw [e]
  refine ⟨_, eqNil ms, ?_, rfl⟩
  rw [← e, any_not]
  rfl
end K11

set_option Elab.async false
set_option linter.all false
set_option maxRecDepth 100000
set_option maxHeartbeats 400000
namespace K11
open PySem PySem.Spec L2 Dv
variable [TabC]
theorem isParty_tup (ds : List D) : isPartyB (.tuple ds) = (ds.all isPersonB && upB ds && (decide (1 ≤ ds.length) && decide (ds.length ≤ 3))) := rfl
theorem party_len {ds : List D} (z : ds.length < 1 ∨ 3 < ds.length) : isPartyB (.tuple ds) = false := by
  rw [isParty_tup]
  rcases z with z | z
  · rw [decide_eq_false (p := 1 ≤ ds.length) (by omega), Bool.false_and, Bool.and_false]
  · rw [decide_eq_false (p := ds.length ≤ 3) (by omega), Bool.and_false, Bool.and_false]
theorem lawIsParty_any {d : D} (h : Pd d) : tells lawIsParty d (isPartyB d) := by
  refine kinds (p := fun d => Pd d → tells lawIsParty d (isPartyB d)) h.pd (fun _ => evFn_run ⟨_, rfl, brB_t rfl (brB_t rfl ⟨rfl, rfl⟩)⟩) (fun _ _ => evFn_run ⟨_, rfl, brB_t rfl (brB_t rfl ⟨rfl, rfl⟩)⟩) (fun _ _ => evFn_run ⟨_, rfl, brB_t rfl (brB_t rfl ⟨rfl, rfl⟩)⟩) (fun _ _ => evFn_run ⟨_, rfl, brB_t rfl (brB_t rfl ⟨rfl, rfl⟩)⟩) (fun _ _ => evFn_run ⟨_, rfl, brB_t rfl (brB_t rfl ⟨rfl, rfl⟩)⟩) (fun _ => evFn_run ⟨_, rfl, brB_t rfl (brB_t rfl ⟨rfl, rfl⟩)⟩) (fun _ _ _ => evFn_run ⟨_, rfl, brB_t rfl (brB_t rfl ⟨rfl, rfl⟩)⟩) (fun ds hp h => ?_) h
  have hl := h.len
  refine evFn_run ⟨_, rfl, brB_f rfl ⟨_, rfl, _, rfl, ?_⟩⟩
  show brB (decide ((1 : Int) ≤ (ds.length : Nat))) _ _
  by_cases h1 : 1 ≤ ds.length
  · refine brB_t (decide_eq_true (by omega)) ⟨_, rfl, ?_⟩
    show brB (!decide ((ds.length : Int) ≤ 3)) _ _
    by_cases h3 : ds.length ≤ 3
    · refine brB_f (by rw [decide_eq_true (by omega)]; rfl) ?_
      refine loop_mapQ (fun d => d) (fun d => some (.bool (isPersonB d))) (xs := ds) (mapId ds) (by simp [sline]; omega) (fun d hd => wTurn_ok ⟨_, rfl, rfl, wr (fromTo_any (h.mem hd).pd 0 9) ⟨rfl, rfl, rfl⟩⟩) ?_
      refine ⟨_, bltAllD ds isPersonB, ?_⟩
      show brB (ds.all isPersonB) _ _
      cases ha : ds.all isPersonB with
      | false => exact brB_f rfl ⟨by rw [isParty_tup, ha, Bool.false_and, Bool.false_and], rfl⟩
      | true =>
        obtain ⟨ns, rfl⟩ := ints_all person_int ha
        refine brB_t rfl ⟨rfl, wr (lawRising_ints ns (by simpa using hl)) ⟨rfl, ?_, rfl⟩⟩
        rw [isParty_tup, ha, upB_ints, Bool.true_and, decide_eq_true h1, decide_eq_true h3, Bool.and_self, Bool.and_true]
    · exact brB_t (by rw [decide_eq_false (by omega)]; rfl) ⟨by rw [party_len (.inr (by omega))], rfl⟩
  · exact brB_f (decide_eq_false (by omega)) (brB_t rfl ⟨by rw [party_len (.inl (by omega))], rfl⟩)
/-! deeds -/
def isStrB (d : D) (t : Str) : Bool := match d with
  | .str x => x == t
  | _ => false
theorem eqS_any {d : D} (h : plainD d = true) (t : Str) : cmpD .Eq d (.str t) = some (isStrB d t) := by
  have e : ∀ d, cmpD .Eq d (.str t) = if eqOk d (.str t) = true then some (PyData.eqv d (.str t)) else if strNe d (.str t) = true then some false else none := fun _ => rfl
  rw [e]
  cases d with
  | tuple ds => split <;> rfl
  | list ds => split <;> rfl
  | dict kvs =>
    rcases plain_dict h with rfl | ⟨i, j, rfl⟩
    · split <;> rfl
    · split <;> rfl
  | none => rfl
  | bool b => rfl
  | int i => rfl
  | str x => rfl
def isDeedB : D → Bool
  | .tuple [h, w, x] => if isStrB w "leave" = true then isHourB h && isPersonB x else isStrB w "wish" && (isHourB h && isPartyB x)
  | _ => false
theorem deed_no {d : D} (h : isTripleB d = false) : isDeedB d = false := by
  unfold isDeedB
  split
  · simp [isTripleB] at h
  · rfl
theorem isDeed_any {d : D} (h : Pd d) : tells isDeed d (isDeedB d) := by
  have t := isTriple_any h.pd
  cases ht : isTripleB d with
  | false =>
    rw [ht] at t
    rw [deed_no ht]
    exact evFn_run ⟨rfl, wr t ⟨rfl, _, rfl, brB_t rfl ⟨rfl, rfl⟩⟩⟩
  | true =>
    rw [ht] at t
    obtain ⟨a, b, c, rfl⟩ := triple_of ht
    have pa : Pd a := h.mem (by simp)
    have pb : Pd b := h.mem (by simp)
    have pc : Pd c := h.mem (by simp)
    have e : isDeedB (.tuple [a, b, c]) = if isStrB b "leave" = true then isHourB a && isPersonB c else isStrB b "wish" && (isHourB a && isPartyB c) := rfl
    rw [e]
    refine evFn_run ⟨rfl, wr t ⟨rfl, _, rfl, brB_f rfl ⟨_, rfl, _, eqS_any pb.pd "leave", ?_⟩⟩⟩
    cases hb : isStrB b "leave" with
    | true =>
      rw [if_pos rfl]
      refine brB_t rfl ⟨rfl, wr (isHour_any pa.pd) ⟨rfl, ?_⟩⟩
      show brB (isHourB a) _ _
      cases ha : isHourB a with
      | false => exact brB_f rfl ⟨rfl, rfl⟩
      | true => exact brB_t rfl ⟨rfl, wr (isPerson_any pc.pd) ⟨rfl, rfl, rfl⟩⟩
    | false =>
      rw [if_neg (by decide)]
      refine brB_f rfl ⟨_, eqS_any pb.pd "wish", ?_⟩
      show brB (isStrB b "wish") _ _
      cases hw : isStrB b "wish" with
      | false => exact brB_f rfl ⟨rfl, rfl⟩
      | true =>
        refine brB_t rfl ⟨rfl, wr (isHour_any pa.pd) ⟨rfl, ?_⟩⟩
        show brB (isHourB a) _ _
        cases ha : isHourB a with
        | false => exact brB_f rfl ⟨rfl, rfl⟩
        | true => exact brB_t rfl ⟨rfl, wr (isParty_any pc) ⟨rfl, rfl, rfl⟩⟩
theorem lawIsDeed_any {d : D} (h : Pd d) : tells lawIsDeed d (isDeedB d) := by
  refine kinds (p := fun d => Pd d → tells lawIsDeed d (isDeedB d)) h.pd (fun _ => evFn_run ⟨_, rfl, brB_t rfl (brB_t rfl ⟨rfl, rfl⟩)⟩) (fun _ _ => evFn_run ⟨_, rfl, brB_t rfl (brB_t rfl ⟨rfl, rfl⟩)⟩) (fun _ _ => evFn_run ⟨_, rfl, brB_t rfl (brB_t rfl ⟨rfl, rfl⟩)⟩) (fun _ _ => evFn_run ⟨_, rfl, brB_t rfl (brB_t rfl ⟨rfl, rfl⟩)⟩) (fun _ _ => evFn_run ⟨_, rfl, brB_t rfl (brB_t rfl ⟨rfl, rfl⟩)⟩) (fun _ => evFn_run ⟨_, rfl, brB_t rfl (brB_t rfl ⟨rfl, rfl⟩)⟩) (fun _ _ _ => evFn_run ⟨_, rfl, brB_t rfl (brB_t rfl ⟨rfl, rfl⟩)⟩) (fun ds hp h => ?_) h
  refine evFn_run ⟨_, rfl, brB_f rfl ⟨_, rfl, _, rfl, ?_⟩⟩
  show brB (!PyData.eqv (.int (ds.length : Nat)) (.int 3)) _ _
  rw [eqI]
  by_cases hl : ds.length = 3
  · match ds, hl with
    | [a, b, c], _ =>
      have pa : Pd a := h.mem (by simp)
      have pb : Pd b := h.mem (by simp)
      have pc : Pd c := h.mem (by simp)
      have e : isDeedB (.tuple [a, b, c]) = if isStrB b "leave" = true then isHourB a && isPersonB c else isStrB b "wish" && (isHourB a && isPartyB c) := rfl
      rw [e]
      refine brB_f rfl ⟨a, rfl, rfl, wr (fromTo_any pa.pd 0 99) ⟨rfl, _, rfl, ?_⟩⟩
      show brB (!isHourB a) _ _
      cases ha : isHourB a with
      | false =>
        refine brB_t rfl ⟨?_, rfl⟩
        rw [Bool.false_and, Bool.false_and, Bool.and_false]
        split <;> rfl
      | true =>
        simp only [Bool.true_and]
        refine brB_f rfl ?_
        cases b with
        | str x =>
          refine ⟨_, rfl, brB_f rfl ⟨.str x, rfl, _, eqS_any rfl "leave", ?_⟩⟩
          cases hb : isStrB (.str x) "leave" with
          | true =>
            rw [if_pos rfl]
            exact brB_t rfl ⟨c, rfl, rfl, wr (fromTo_any pc.pd 0 9) ⟨rfl, rfl, rfl⟩⟩
          | false =>
            rw [if_neg (by decide)]
            refine brB_f rfl ⟨.str x, rfl, _, eqS_any rfl "wish", ?_⟩
            show brB (isStrB (.str x) "wish") _ _
            cases hw : isStrB (.str x) "wish" with
            | false => exact brB_f rfl ⟨rfl, rfl⟩
            | true => exact brB_t rfl ⟨c, rfl, rfl, wr (lawIsParty_any pc) ⟨rfl, rfl, rfl⟩⟩
        | dict kvs =>
          rcases plain_dict pb.pd with rfl | ⟨i, j, rfl⟩
          · exact ⟨_, rfl, brB_t rfl ⟨rfl, rfl⟩⟩
          · exact ⟨_, rfl, brB_t rfl ⟨rfl, rfl⟩⟩
        | none => exact ⟨_, rfl, brB_t rfl ⟨rfl, rfl⟩⟩
        | bool v => exact ⟨_, rfl, brB_t rfl ⟨rfl, rfl⟩⟩
        | int v => exact ⟨_, rfl, brB_t rfl ⟨rfl, rfl⟩⟩
        | tuple v => exact ⟨_, rfl, brB_t rfl ⟨rfl, rfl⟩⟩
        | list v => exact ⟨_, rfl, brB_t rfl ⟨rfl, rfl⟩⟩
  · refine brB_t (by rw [decide_eq_false (by omega)]; rfl) (brB_t rfl ⟨?_, rfl⟩)
    rw [deed_no (by simp [isTripleB, hl])]
end K11

set_option Elab.async false
set_option linter.all false
set_option maxRecDepth 100000
set_option maxHeartbeats 400000
namespace K11
open PySem PySem.Spec L2 Dv
variable [TabC]
/-! what such things are -/
theorem persons_of {ns : List Int} (h : (ns.map PyData.int).all isPersonB = true) : ∀ q ∈ ns, 0 ≤ q ∧ q ≤ 9 := fun q hq => by
  have := List.all_eq_true.mp h (.int q) (List.mem_map.mpr ⟨q, hq, rfl⟩)
  simp only [isPersonB, isWholeB, Bool.and_eq_true, decide_eq_true_eq] at this
  exact this
theorem ups_pair {α : Type} {lt : α → α → Bool} (tr : ∀ a b c, lt a b = true → lt b c = true → lt a c = true) : ∀ {ns : List α}, ((ns.zip (ns.drop 1)).all fun p => lt p.1 p.2) = true → ns.Pairwise fun a b => lt a b = true
  | [], _ => .nil
  | [x], _ => List.pairwise_singleton _ _
  | x :: y :: r, h => by
    simp only [List.drop_succ_cons, List.drop_zero, List.zip_cons_cons, List.all_cons, Bool.and_eq_true] at h
    have ih := ups_pair tr (ns := y :: r) (by simpa using h.2)
    refine List.pairwise_cons.mpr ⟨fun z hz => ?_, ih⟩
    rcases List.mem_cons.mp hz with e | hz
    · rw [e]; exact h.1
    · exact tr _ _ _ h.1 ((List.pairwise_cons.mp ih).1 z hz)
theorem party_of {d : D} (h : isPartyB d = true) : ∃ p, d = daysD p ∧ Party p := by
  cases d with
  | tuple ds =>
    rw [isParty_tup] at h
    simp only [Bool.and_eq_true, decide_eq_true_eq] at h
    obtain ⟨⟨h1, h2⟩, h3, h4⟩ := h
    obtain ⟨ns, rfl⟩ := ints_all person_int h1
    rw [upB_ints] at h2
    refine ⟨ns, rfl, persons_of h1, ?_, by simpa using h3, by simpa using h4⟩
    exact (ups_pair (lt := fun a b => decide (a < b)) (fun a b c x y => by simp only [decide_eq_true_eq] at *; omega) h2).imp fun h => of_decide_eq_true h
  | _ => cases h
theorem deed_of {d : D} (h : isDeedB d = true) : ∃ c, d = ddD c ∧ OkDd c := by
  unfold isDeedB at h
  split at h
  · rename_i a w x
    split at h
    · rename_i hw
      simp only [Bool.and_eq_true] at h
      obtain ⟨i, rfl, h1⟩ := isWholeB_int h.1
      obtain ⟨j, rfl, h2⟩ := isWholeB_int h.2
      unfold isStrB at hw
      split at hw
      · rw [beq_iff_eq.mp hw]
        exact ⟨.leave i j, rfl, h1, h2⟩
      · cases hw
    · simp only [Bool.and_eq_true] at h
      obtain ⟨hw, h3, h4⟩ := h
      obtain ⟨i, rfl, h1⟩ := isWholeB_int h3
      obtain ⟨p, rfl, hp⟩ := party_of h4
      unfold isStrB at hw
      split at hw
      · rw [beq_iff_eq.mp hw]
        exact ⟨.wish i p, rfl, h1, hp⟩
      · cases hw
  · cases h
theorem deeds_all {ds : List D} (h : ds.all isDeedB = true) : ∃ ns : List Dd, ds = ns.map ddD ∧ ∀ c ∈ ns, OkDd c := by
  induction ds with
  | nil => exact ⟨[], rfl, fun c h => by cases h⟩
  | cons d ds ih =>
    simp only [List.all_cons, Bool.and_eq_true] at h
    obtain ⟨c, rfl, hc⟩ := deed_of h.1
    obtain ⟨ns, e, hn⟩ := ih h.2
    refine ⟨c :: ns, by rw [e]; rfl, fun x hx => ?_⟩
    rcases List.mem_cons.mp hx with z | z
    · rw [z]; exact hc
    · exact hn x z
def riseDB : D → Bool
  | .tuple ds => ds.all isDeedB && upDB ds
  | _ => false
theorem rising2_any {d : D} (h : Pd d) : wRun areRising2 [] [.im d, .fn "is_deed"] fun s bs => s = .im (.bool (riseDB d)) ∧ bs = [] := by
  refine kinds (p := fun d => Pd d → wRun areRising2 [] [.im d, .fn "is_deed"] fun s bs => s = .im (.bool (riseDB d)) ∧ bs = []) h.pd (fun _ => evFn_run ⟨_, rfl, brB_t rfl (brB_t rfl ⟨rfl, rfl⟩)⟩) (fun _ _ => evFn_run ⟨_, rfl, brB_t rfl (brB_t rfl ⟨rfl, rfl⟩)⟩) (fun _ _ => evFn_run ⟨_, rfl, brB_t rfl (brB_t rfl ⟨rfl, rfl⟩)⟩) (fun _ _ => evFn_run ⟨_, rfl, brB_t rfl (brB_t rfl ⟨rfl, rfl⟩)⟩) (fun _ _ => evFn_run ⟨_, rfl, brB_t rfl (brB_t rfl ⟨rfl, rfl⟩)⟩) (fun _ => evFn_run ⟨_, rfl, brB_t rfl (brB_t rfl ⟨rfl, rfl⟩)⟩) (fun _ _ _ => evFn_run ⟨_, rfl, brB_t rfl (brB_t rfl ⟨rfl, rfl⟩)⟩) (fun ds hp h => ?_) h
  have hl := h.len
  refine evFn_run ⟨_, rfl, brB_f rfl ?_⟩
  refine loop_mapQ (fun d => d) (fun d => some (.bool (isDeedB d))) (xs := ds) (mapId ds) (by simp [sline]; omega) (fun d hd => wTurn_ok ⟨_, rfl, rfl, wr (isDeed_any (h.mem hd)) ⟨rfl, rfl, rfl⟩⟩) ?_
  refine ⟨_, bltAllD ds isDeedB, _, rfl, ?_⟩
  show brB (!ds.all isDeedB) _ _
  cases ha : ds.all isDeedB with
  | false => exact brB_t rfl ⟨by simp only [riseDB, ha, Bool.false_and], rfl⟩
  | true =>
    obtain ⟨ns, rfl, _⟩ := deeds_all ha
    rw [List.length_map] at hl
    have zl := zip_len ns (ns.drop 1)
    refine brB_f rfl ⟨_, _, rfl, _, _, rfl, _, rfl, ?_⟩
    refine loop_mapQ (enP ddD) (fun p => some (.bool (ddLt p.1 p.2))) (zip_next ddD ns) (by simp only [sline]; omega) (fun p hp => wTurn_ok ⟨_, rfl, _, cmpLt_dd p.1 p.2, rfl, rfl⟩) ?_
    refine ⟨_, bltAll (ns.zip (ns.drop 1)) fun p => ddLt p.1 p.2, ?_, rfl⟩
    simp only [riseDB, ha, upDB_dds, upsD, Bool.true_and]
def isBookB : D → Bool
  | .tuple ds => ds.all isDeedB && upDB ds && decide (ds.length ≤ 24)
  | _ => false
theorem isBook_tup (ds : List D) : isBookB (.tuple ds) = (ds.all isDeedB && upDB ds && decide (ds.length ≤ 24)) := rfl
theorem book_no {d : D} (h : riseDB d = false) : isBookB d = false := by
  cases d with
  | tuple ds =>
    have h : (ds.all isDeedB && upDB ds) = false := h
    rw [isBook_tup, h, Bool.false_and]
  | _ => rfl
theorem isBook_any {d : D} (h : Pd d) : tells isBook d (isBookB d) := by
  have t := rising2_any h
  refine evFn_run ⟨rfl, wr t ⟨rfl, ?_⟩⟩
  show brB (riseDB d) _ _
  cases hr : riseDB d with
  | false => exact brB_f rfl ⟨by rw [book_no hr], rfl⟩
  | true =>
    unfold riseDB at hr
    split at hr
    · rename_i ds
      refine brB_t rfl ⟨_, rfl, _, rfl, ?_, rfl⟩
      rw [isBook_tup, hr, Bool.true_and]
      show Sl.im (.bool (decide ((ds.length : Int) ≤ 24))) = _
      congr 2
      exact decide_eq_decide.mpr (by omega)
    · cases hr
theorem lawRising_dds (ns : List Dd) (hl : ns.length ≤ 500000) : wRun lawRising [] [.im (.tuple (ns.map ddD))] fun s bs => s = .im (.bool (upsD ns)) ∧ bs = [] := by
  have zl := zip_len ns (ns.drop 1)
  refine evFn_run ⟨_, _, rfl, _, _, rfl, _, rfl, ?_⟩
  refine loop_mapQ (enP ddD) (fun p => if (!ddLt p.1 p.2) = true then some (PyData.int 1) else none) (zip_next ddD ns) (by simp only [sline]; omega) (fun p hp => wTurn_ok ⟨_, rfl, _, cmpLt_dd p.1 p.2, fun hb => ⟨rfl, by rw [if_pos hb]⟩, fun hb => ⟨rfl, by rw [if_neg (by rw [hb]; decide)]⟩⟩) ?_
  obtain ⟨ms, e⟩ := ones (fun p : Dd × Dd => !ddLt p.1 p.2) (ns.zip (ns.drop 1))
  refine ⟨(by show 0 ≤ 100000; decide), ?_⟩
  rw [e]
  refine ⟨_, eqNil ms, ?_, rfl⟩
  rw [← e, any_not]
  rfl
theorem lawIsBook_any {d : D} (h : Pd d) : tells lawIsBook d (isBookB d) := by
  refine kinds (p := fun d => Pd d → tells lawIsBook d (isBookB d)) h.pd (fun _ => evFn_run ⟨_, rfl, brB_t rfl (brB_t rfl ⟨rfl, rfl⟩)⟩) (fun _ _ => evFn_run ⟨_, rfl, brB_t rfl (brB_t rfl ⟨rfl, rfl⟩)⟩) (fun _ _ => evFn_run ⟨_, rfl, brB_t rfl (brB_t rfl ⟨rfl, rfl⟩)⟩) (fun _ _ => evFn_run ⟨_, rfl, brB_t rfl (brB_t rfl ⟨rfl, rfl⟩)⟩) (fun _ _ => evFn_run ⟨_, rfl, brB_t rfl (brB_t rfl ⟨rfl, rfl⟩)⟩) (fun _ => evFn_run ⟨_, rfl, brB_t rfl (brB_t rfl ⟨rfl, rfl⟩)⟩) (fun _ _ _ => evFn_run ⟨_, rfl, brB_t rfl (brB_t rfl ⟨rfl, rfl⟩)⟩) (fun ds hp h => ?_) h
  have hl := h.len
  refine evFn_run ⟨_, rfl, brB_f rfl ⟨_, rfl, _, rfl, ?_⟩⟩
  show brB (decide ((24 : Int) < (ds.length : Nat))) _ _
  by_cases h1 : ds.length ≤ 24
  · refine brB_f (decide_eq_false (by omega)) ?_
    refine loop_mapQ (fun d => d) (fun d => some (.bool (isDeedB d))) (xs := ds) (mapId ds) (by simp [sline]; omega) (fun d hd => wTurn_ok ⟨_, rfl, rfl, wr (lawIsDeed_any (h.mem hd)) ⟨rfl, rfl, rfl⟩⟩) ?_
    refine ⟨_, bltAllD ds isDeedB, _, rfl, ?_⟩
    show brB (!ds.all isDeedB) _ _
    cases ha : ds.all isDeedB with
    | false => exact brB_t rfl ⟨by rw [isBook_tup, ha, Bool.false_and, Bool.false_and], rfl⟩
    | true =>
      obtain ⟨ns, rfl, _⟩ := deeds_all ha
      refine brB_f rfl ⟨rfl, wr (lawRising_dds ns (by simpa using hl)) ⟨rfl, ?_, rfl⟩⟩
      rw [isBook_tup, ha, upDB_dds, Bool.true_and, decide_eq_true h1, Bool.and_true]
  · exact brB_t (decide_eq_true (by omega)) (brB_t rfl ⟨by rw [isBook_tup, decide_eq_false h1, Bool.and_false], rfl⟩)
theorem ddLt_tr (a b c : Dd) (h1 : ddLt a b = true) (h2 : ddLt b c = true) : ddLt a c = true := by
  rcases ddl_split (ddKey a) (ddKey b) (ddKey c) h1 with z | z
  · exact z
  · have := ddl_asym (ddKey b) (ddKey c) h2
    rw [z] at this
    cases this
theorem book_of {d : D} (h : isBookB d = true) : ∃ ds, d = bkD ds ∧ OkBk ds := by
  cases d with
  | tuple ds =>
    rw [isBook_tup] at h
    simp only [Bool.and_eq_true, decide_eq_true_eq] at h
    obtain ⟨⟨h1, h2⟩, h3⟩ := h
    obtain ⟨ns, rfl, hn⟩ := deeds_all h1
    rw [upDB_dds] at h2
    exact ⟨ns, rfl, by simpa using h3, hn, ups_pair ddLt_tr h2⟩
  | _ => cases h
theorem lesson_of {d : D} (h : isLessonB d = true) : ∃ l, d = lsD l ∧ OkLs l := by
  unfold isLessonB at h
  split at h
  · simp only [Bool.and_eq_true] at h
    obtain ⟨i, rfl, h1⟩ := isWholeB_int h.1
    obtain ⟨j, rfl, h2⟩ := isWholeB_int h.2.1
    obtain ⟨k, rfl, h3⟩ := isWholeB_int h.2.2
    exact ⟨(i, j, k), rfl, h1, h2, h3⟩
  · cases h
end K11

set_option Elab.async false
set_option linter.all false
set_option maxRecDepth 100000
set_option maxHeartbeats 1000000
namespace K11
open PySem PySem.Spec L2 Dv

/-! ### odd things -/
def i3 (a b c : Int) : D := .tuple [.int a, .int b, .int c]
def w3 (a : Int) (x : Str) (b : D) : D := .tuple [.int a, .str x, b]
def oddL : List D := [.none, .bool true, .bool false, .int 0, .int 1, .int (-1), .int 2, .int 3, .int 6, .int 7, .int 9, .int 10, .int 11, .int 24, .int 25, .int 59, .int 60, .int 99, .int 100, .int 101, .int (10 ^ 19),
  .int (0 - 10 ^ 19), .str "", .str "0", .str "leave", .str "wish", .tuple [], .list [], .dict [], .tuple [.int 0], .list [.int 0], .tuple [.int 1, .int 1], .tuple [.int 0, .int 0], .tuple [.int 0, .int 1],
  i3 0 0 1, .tuple [i3 0 0 1], i3 0 4 24, w3 0 "leave" (.int 0), w3 0 "wish" (.tuple [.int 0]), w3 0 "wish" (.int 0),
  .tuple [.int 0, .int 1, .int 2, .int 3], .tuple [w3 0 "leave" (.int 0)], .tuple [.none], .tuple [.tuple []], .dict [(.int 0, .int 5)], .tuple [.bool true], .tuple [.int 9, .int 8]]
def cfO : Cf := ⟨["_law_box_here", "_law_some"], gl, F18, xtC false⟩
theorem odd_gx : (oddL.all fun d => gxB 3 30 d) = true := by decide +kernel
theorem odd_g {d : D} (h : d ∈ oddL) : Gx 3 30 d := gx_of (List.all_eq_true.mp odd_gx d h)
section
variable [TabC]
/-- what the law's def of odd things tells -/
theorem odd_w (bs : List D) (Q : Fl → Prop) (q : wRunL (wxs cfO 14 (defScope (top 19)) (okB ⟨true, 1, fun _ _ => none⟩) 200 14) ((defBody (top 19)).drop 4) [some (.ow bs), some (.ow oddL)] Q) :
    wRunL (wxs cfO 14 (defScope (top 19)) (okB ⟨true, 1, fun _ _ => none⟩) 200 14) (defBody (top 19)) [some (.ow bs), none] Q := by
  refine ⟨_, _, rfl, Nat.le_of_ble_eq_true rfl, _, rfl, ?_⟩
  refine ⟨_, rfl, Nat.le_of_ble_eq_true rfl, Nat.le_of_ble_eq_true rfl, Nat.le_of_ble_eq_true rfl, Nat.le_of_ble_eq_true rfl, Nat.le_of_ble_eq_true rfl, Nat.le_of_ble_eq_true rfl, Nat.le_of_ble_eq_true rfl, Nat.le_of_ble_eq_true rfl, _, rfl, _, rfl, ?_⟩
  refine ⟨Nat.le_of_ble_eq_true rfl, Nat.le_of_ble_eq_true rfl, Nat.le_of_ble_eq_true rfl, Nat.le_of_ble_eq_true rfl, Nat.le_of_ble_eq_true rfl, Nat.le_of_ble_eq_true rfl, Nat.le_of_ble_eq_true rfl, Nat.le_of_ble_eq_true rfl, Nat.le_of_ble_eq_true rfl, _, rfl, _, rfl, ?_⟩
  refine ⟨Nat.le_of_ble_eq_true rfl, Nat.le_of_ble_eq_true rfl, Nat.le_of_ble_eq_true rfl, Nat.le_of_ble_eq_true rfl, Nat.le_of_ble_eq_true rfl, Nat.le_of_ble_eq_true rfl, Nat.le_of_ble_eq_true rfl, Nat.le_of_ble_eq_true rfl, Nat.le_of_ble_eq_true rfl, _, rfl, _, rfl, ?_⟩
  exact q
theorem atI_mem {xs : List D} {k : Int} (h0 : 0 ≤ k) (h1 : k < (xs.length : Int)) : ∃ d, atI xs k = some d ∧ d ∈ xs := by
  obtain ⟨j, rfl⟩ := Int.eq_ofNat_of_zero_le h0
  have hj : j < xs.length := by omega
  exact ⟨xs[j], atI_nat (List.getElem?_eq_getElem hj), List.getElem_mem hj⟩
def OddOut (s : Sl) (bs : List D) : Prop := Box bs ∧ ∃ d ∈ oddL, s = .im d
theorem lawOdd_ok {bs : List D} (hb : Box bs) : wRun lawOdd bs [] OddOut := by
  refine evFn_run (odd_w bs _ ⟨rfl, tk hb (m := (oddL.length : Nat)) (by decide) (by decide) fun k b1 k0 k1 hb1 => ?_⟩)
  obtain ⟨d, e, hd⟩ := atI_mem k0 k1
  exact ⟨d, e, hb1, d, hd, rfl⟩
end
end K11

set_option Elab.async false
set_option linter.all false
set_option maxRecDepth 100000
set_option maxHeartbeats 1000000
namespace K11
open PySem PySem.Spec L2 Dv
variable [TabC]
/-! ### what is spoilt -/
def L : Nat → Nat
  | 0 => 30
  | 1 => 9
  | 2 => 25
  | _ => 3
def Th : Nat → D → Prop
  | 0, d => d = .none ∨ (∃ i : Int, d = .int i ∧ i.natAbs < 1000) ∨ d = .str "leave" ∨ d = .str "wish"
  | k + 1, d => Th k d ∨ ∃ ds, d = .tuple ds ∧ ds.length ≤ L k ∧ ∀ e ∈ ds, Th k e
def bb : Nat → Nat
  | 0 => 5
  | k + 1 => L k * (bb k + 1) + bb k
def rr : Nat → Nat
  | 0 => 30
  | k + 1 => 3 * L k * (bb k + 1) + rr k + bb k + 31
theorem th_cn : ∀ {k : Nat} {d : D}, Th k d → Cn k (bb k) d
  | 0, d, h => by
    rcases h with rfl | ⟨i, rfl, hi⟩ | rfl | rfl
    · exact cn_none.mono (Nat.le_refl _) (Nat.zero_le _)
    · exact (cn_int (by omega)).mono (Nat.le_refl _) (Nat.zero_le _)
    · exact cn_str (by decide) (by decide)
    · exact cn_str (by decide) (by decide)
  | k + 1, d, h => by
    rcases h with h | ⟨ds, rfl, hl, h⟩
    · have := Nat.le_refl (bb k)
      exact (th_cn h).mono (by omega) (by simp only [bb]; omega)
    · exact (cnA fun e he => th_cn (h e he)).tup.mono (Nat.le_refl _) (by simp only [bb]; exact Nat.le_trans (Nat.mul_le_mul_right _ hl) (Nat.le_add_right _ _))
theorem bb_up (k : Nat) : bb k ≤ bb (k + 1) := by simp only [bb]; omega
theorem rr_up (k : Nat) : rr k ≤ rr (k + 1) := by simp only [rr]; omega
theorem bb_rr : ∀ k, bb k ≤ rr k
  | 0 => by decide
  | k + 1 => by
    have := Nat.mul_le_mul_right (bb k + 1) (show L k ≤ 3 * L k by omega)
    simp only [bb, rr]; omega
theorem rr_30 : ∀ k, 30 ≤ rr k
  | 0 => by decide
  | k + 1 => by simp only [rr]; omega
theorem cut_mem {ds : List D} {lo hi : Option Int} {e : D} (h : e ∈ cutD ds lo hi) : e ∈ ds := by
  unfold cutD at h
  exact List.mem_of_mem_drop (List.mem_of_mem_take h)
theorem cut_len (ds : List D) (lo hi : Option Int) : (cutD ds lo hi).length ≤ ds.length := by
  unfold cutD
  rw [List.length_take, List.length_drop]
  omega
/-- made of parts of a thing, with one of another kind -/
theorem gx_mid {k b : Nat} {as bs : List D} {r : D} (ha : ∀ e ∈ as, Th k e) (hb : ∀ e ∈ bs, Th k e) {n : Nat} (hl : as.length + bs.length ≤ n) {m : Nat} (hm : k ≤ m) (hr : Gx m b r) : Gx (m + 1) (n * (bb k + 1) + b + 1) (.tuple (as ++ [r] ++ bs)) := by
  have h1 := cnA fun e he => (th_cn (ha e he)).mono hm (Nat.le_refl _)
  have h2 := cnA fun e he => (th_cn (hb e he)).mono hm (Nat.le_refl _)
  refine ((h1.appG (GxA.one hr)).appC h2).tup.mono (Nat.le_refl _) ?_
  have : as.length * (bb k + 1) + bs.length * (bb k + 1) ≤ n * (bb k + 1) := by rw [← Nat.add_mul]; exact Nat.mul_le_mul_right _ hl
  omega
theorem cn_row {k : Nat} {as : List D} (ha : ∀ e ∈ as, Th k e) {n : Nat} (hl : as.length ≤ n) : Cn (k + 1) (n * (bb k + 1)) (.tuple as) := (cnA fun e he => th_cn (ha e he)).tup.mono (Nat.le_refl _) (Nat.mul_le_mul_right _ hl)
theorem gx_lst {k : Nat} {as : List D} (ha : ∀ e ∈ as, Th k e) {n : Nat} (hl : as.length ≤ n) : Gx (k + 1) (n * (bb k + 1)) (.list as) := (cnA fun e he => th_cn (ha e he)).lst.mono (Nat.le_refl _) (Nat.mul_le_mul_right _ hl)
theorem canLay_th : ∀ {k : Nat} {d : D}, Th k d → d.canLay0 = true
  | 0, d, h => by
    rcases h with rfl | ⟨i, rfl, hi⟩ | rfl | rfl
    · rfl
    · rfl
    · simp only [PyData.canLay0]; decide +kernel
    · simp only [PyData.canLay0]; decide +kernel
  | k + 1, d, h => by
    rcases h with h | ⟨ds, rfl, hl, h⟩
    · exact canLay_th h
    · have z : ∀ ds : List D, (∀ e ∈ ds, Th k e) → PyData.canLayAll0 ds = true := fun ds => by
        induction ds with
        | nil => intro _; rfl
        | cons e es ih =>
          intro h
          simp only [PyData.canLayAll0, Bool.and_eq_true]
          exact ⟨canLay_th (h e List.mem_cons_self), ih fun x hx => h x (List.mem_cons_of_mem _ hx)⟩
      simp only [PyData.canLay0]
      exact z ds h
theorem shaped_th {k : Nat} {d : D} (h : Th k d) (hk : k ≤ 60) : SeqAt.shaped d = true := by
  unfold SeqAt.shaped
  rw [canLay_th h, Bool.true_and, decide_eq_true_eq]
  have := (th_cn h).dp
  omega
theorem ne_nil {k : Nat} {ds : List D} (h : Th k (.tuple ds)) (hk : k ≤ 60) : cmpD .NotEq (.tuple ds) (.tuple []) = some (!ds.isEmpty) := by
  have e : cmpD .NotEq (.tuple ds) (.tuple []) = if eqOk (.tuple ds) (.tuple []) = true then some (!PyData.eqv (.tuple ds) (.tuple [])) else none := rfl
  rw [e, if_pos (by unfold eqOk; rw [shaped_th h hk]; exact (Bool.or_eq_true _ _).mpr (.inr (by decide +kernel)))]
  cases ds <;> simp [PyData.eqv, PyData.eqvAll]
def fS (b : List D) (d o : D) (x y z : Option Sl) : Rho := [some (.ow b), some (.im d), some (.im o), x, y, z]
def SpOut (k : Nat) (s : Sl) (bs : List D) : Prop := Box bs ∧ ∃ r, s = .im r ∧ Gx (k + 4) (rr k) r
def spB1 : List Stmt := match (defBody (top 18)).getD 0 (.Pass ⟨0, 0, 0, 0⟩) with | .If _ a _ _ => a | _ => []
def spB2 : List Stmt := match (defBody (top 18)).getD 2 (.Pass ⟨0, 0, 0, 0⟩) with | .If _ a _ _ => a | _ => []
theorem rr_mono {j k : Nat} (h : j ≤ k) : rr j ≤ rr k := by
  induction h with
  | refl => exact Nat.le_refl _
  | step _ ih => exact Nat.le_trans ih (rr_up _)
theorem rr_le {j k : Nat} (h : j < k) : rr (j + 1) ≤ rr k := rr_mono h
theorem L_30 : ∀ e, L e ≤ 30 := by
  intro e
  unfold L
  split <;> decide
theorem L_1 : ∀ e, 1 ≤ L e := by
  intro e
  unfold L
  split <;> decide
theorem bb_mono {j k : Nat} (h : j < k) : bb (j + 1) ≤ bb k := by
  induction h with
  | refl => exact Nat.le_refl _
  | step _ ih => exact Nat.le_trans ih (bb_up _)
theorem le_rr {j k : Nat} (h : j ≤ k) : 3 * L j * (bb j + 1) + rr k + 1 ≤ rr (k + 1) := by
  rcases Nat.lt_or_ge j k with h1 | h1
  · have e1 : L j * (bb j + 1) ≤ bb (j + 1) := by simp only [bb]; omega
    have e2 := bb_mono h1
    have e3 : 1 * (bb k + 1) ≤ L k * (bb k + 1) := Nat.mul_le_mul_right _ (L_1 k)
    have e4 : 3 * L j * (bb j + 1) = 3 * (L j * (bb j + 1)) := Nat.mul_assoc _ _ _
    have e5 : 3 * L k * (bb k + 1) = 3 * (L k * (bb k + 1)) := Nat.mul_assoc _ _ _
    simp only [rr]
    omega
  · have : j = k := by omega
    subst this
    simp only [rr]
    omega
theorem gx_text {i : Int} (h : i.natAbs < 1000000) : Gx 0 10 (.str (toString i : String)) := by
  refine (cn_str (fun c hc => ?_) ?_).g
  · rw [Str.ofString_eq_toList] at hc
    simp only [List.mem_map] at hc
    obtain ⟨ch, _, rfl⟩ := hc
    have v : ch.val.toNat.isValidChar := ch.valid
    unfold Nat.isValidChar at v
    show ch.val.toNat < 16 ^ 8
    omega
  · have e := ofString_length (toString i)
    have := int_text_length_le10 (a := i) (k := 6) (by decide) (by omega)
    show (Str.ofString (toString i)).cps.size ≤ 10
    have e2 : (Str.ofString (toString i)).length = (Str.ofString (toString i)).cps.size := rfl
    omega
theorem gx_int {i : Int} (h : i.natAbs < 1000000) {m b : Nat} : Gx m b (.int i) := (cn_int (by omega)).g.mono (Nat.zero_le _) (Nat.zero_le _)
theorem row_th {k : Nat} {d : D} (h : Th (k + 1) d) : (∃ ds, d = .tuple ds ∧ ds.length ≤ L k ∧ ∀ e ∈ ds, Th k e) ∨ (∀ ds, d ≠ .tuple ds) ∨ Th k d := by
  rcases h with h | h
  · exact .inr (.inr h)
  · exact .inl h
/-- rows are rows of things of one level less; else no rows -/
theorem th_cases : ∀ {k : Nat} {d : D}, Th k d → (∃ j ds, j < k ∧ d = .tuple ds ∧ ds.length ≤ L j ∧ ∀ e ∈ ds, Th j e) ∨ Th 0 d
  | 0, d, h => .inr h
  | k + 1, d, h => by
    rcases h with h | ⟨ds, rfl, hl, h⟩
    · rcases th_cases h with ⟨j, ds, hj, e⟩ | h
      · exact .inl ⟨j, ds, by omega, e⟩
      · exact .inr h
    · exact .inl ⟨k, ds, by omega, rfl, hl, h⟩
theorem th_le {j k : Nat} (hk : j ≤ k) {d : D} (h : Th j d) : Th k d := by
  induction hk with
  | refl => exact h
  | step _ ih => exact .inl ih
theorem th0_not {d : D} (h : Th 0 d) : isTy "tuple" d = false ∧ excB d = false ∧ (isTy "int" d = true ↔ ∃ i : Int, d = .int i ∧ i.natAbs < 1000) := by
  rcases h with rfl | ⟨i, rfl, hi⟩ | rfl | rfl
  · exact ⟨rfl, rfl, by constructor; intro z; cases z; rintro ⟨i, z, _⟩; cases z⟩
  · exact ⟨rfl, rfl, fun _ => ⟨i, rfl, hi⟩, fun _ => rfl⟩
  · exact ⟨rfl, rfl, by constructor; intro z; cases z; rintro ⟨i, z, _⟩; cases z⟩
  · exact ⟨rfl, rfl, by constructor; intro z; cases z; rintro ⟨i, z, _⟩; cases z⟩
/-! level 0 -/
abbrev cS0 : Cf := ⟨["_law_box_here", "_law_thing", "_law_odd_here", "_law_at", "_law_way", "_law_some"], gl, F14, ({ b := false } : Xt)⟩
abbrev wS0 (m : Nat) : Rho → Stmt → (Fl → Prop) → Prop := wxs cS0 14 (defScope (top 18)) (okB ⟨true, 3, fun _ _ => none⟩) 200 m
section
variable {b : List D} {d o : D} {x y z : Option Sl} {Q : Fl → Prop}
theorem A0_1 (hb : Box b) (q : ∀ k b', 0 ≤ k → k < 7 → Box b' → Q (.nx (fS b' d o x (some (.im (.int k))) z))) : wS0 14 (fS b d o x y z) ((defBody (top 18)).getD 1 dS) Q := by
  unfold fS at q ⊢
  exact ⟨rfl, tk hb (by decide) (by decide) fun k b' k0 k1 hb' => ⟨_, rfl, q k b' k0 k1 hb'⟩⟩
theorem A0_4 (q : Q (.rt (.im o) (fS b d o x y z))) : wS0 14 (fS b d o x y z) ((defBody (top 18)).getD 4 dS) Q := by
  unfold fS at q ⊢
  exact q
theorem A0_3 {way : Int} (w0 : 0 ≤ way) (w1 : way < 7) (hd : Th 0 d) (ho : Gx 3 30 o) (q : ∀ r, Gx 4 30 r → Q (.rt (.im r) (fS b d o x (some (.im (.int way))) z))) (q2 : Q (.nx (fS b d o x (some (.im (.int way))) z))) : wS0 14 (fS b d o x (some (.im (.int way))) z) ((defBody (top 18)).getD 3 dS) Q := by
  unfold fS at q q2 ⊢
  rcases hd with rfl | ⟨i, rfl, hi⟩ | rfl | rfl
  · exact ⟨_, rfl, brB_f rfl q2⟩
  · have n1 : (i + 1).natAbs < 1000000 := by omega
    have n2 : (i - 1).natAbs < 1000000 := by omega
    have n3 : (0 - i).natAbs < 1000000 := by omega
    have n4 : (i + 90).natAbs < 1000000 := by omega
    have n5 : i.natAbs < 1000000 := by omega
    have hs : bltD "str" [.int i] = some (.im (.str (toString i : String))) := by
      have e : bltD "str" [.int i] = if i.natAbs.log2 < 1920 then some (.im (.str (toString i : String))) else none := rfl
      rw [e, if_pos (by
        have := (cn_int (i := i) (by omega)).sh
        simpa only [PyData.showable, decide_eq_true_eq] using this)]
    obtain ⟨r, e, hr⟩ := atI_mem (xs := [.int (i + 1), .int (i - 1), .int (0 - i), .str (toString i : String), o, .int (i + 90), o]) w0 w1
    refine ⟨_, rfl, brB_t rfl ⟨_, rfl, _, rfl, _, rfl, _, hs, _, rfl, (by show 7 ≤ 100000; decide), r, e, q r ?_⟩⟩
    simp only [List.mem_cons, List.not_mem_nil, or_false] at hr
    rcases hr with rfl | rfl | rfl | rfl | rfl | rfl | rfl
    · exact gx_int n1
    · exact gx_int n2
    · exact gx_int n3
    · exact (gx_text n5).mono (by omega) (by omega)
    · exact ho.mono (by omega) (by omega)
    · exact gx_int n4
    · exact ho.mono (by omega) (by omega)
  · exact ⟨_, rfl, brB_f rfl q2⟩
  · exact ⟨_, rfl, brB_f rfl q2⟩
theorem A0_0n (hd : Th 0 d) (q : Q (.nx (fS b d o x y z))) : wS0 14 (fS b d o x y z) ((defBody (top 18)).getD 0 dS) Q := by
  unfold fS at q ⊢
  rcases hd with rfl | ⟨i, rfl, hi⟩ | rfl | rfl
  · exact ⟨_, rfl, brB_f rfl (brB_f rfl q)⟩
  · exact ⟨_, rfl, brB_f rfl (brB_f rfl q)⟩
  · exact ⟨_, rfl, brB_f rfl (brB_f rfl q)⟩
  · exact ⟨_, rfl, brB_f rfl (brB_f rfl q)⟩
theorem A0_2n (hd : Th 0 d) (q : Q (.nx (fS b d o x y z))) : wS0 14 (fS b d o x y z) ((defBody (top 18)).getD 2 dS) Q := by
  unfold fS at q ⊢
  rcases hd with rfl | ⟨i, rfl, hi⟩ | rfl | rfl
  · exact ⟨_, rfl, brB_f rfl q⟩
  · exact ⟨_, rfl, brB_f rfl q⟩
  · exact ⟨_, rfl, brB_f rfl q⟩
  · exact ⟨_, rfl, brB_f rfl q⟩
theorem A0_c0 {ds : List D} (hb : Box b) (hl : ds.length ≤ 30) (q : ∀ (k : Nat) b', k ≤ ds.length → Box b' → Q (.nx (fS b' (.tuple ds) o (some (.im (.int (k : Nat)))) y z))) : wS0 13 (fS b (.tuple ds) o x y z) (spB2.getD 0 dS) Q := by
  unfold fS at q ⊢
  refine ⟨_, rfl, _, rfl, rfl, tk hb (m := (ds.length : Nat) + 1) (by omega) (by omega) fun k b' k0 k1 hb' => ⟨_, rfl, ?_⟩⟩
  obtain ⟨j, rfl⟩ := Int.eq_ofNat_of_zero_le k0
  exact q j b' (by omega) hb'
theorem A0_c1 {ds : List D} {j : Nat} (hl : ds.length ≤ 30) (q : Q (.nx (fS b (.tuple ds) o (some (.im (.int (j : Nat)))) y (some (.ow [.tuple (cutD ds none (some (j : Nat)) ++ cutD ds (some ((j : Int) + 1)) none), .tuple (cutD ds none (some (j : Nat)) ++ cutD ds (some (j : Nat)) (some ((j : Int) + 1)) ++ cutD ds (some (j : Nat)) none), .tuple ds.reverse, .list ds]))))) :
    wS0 13 (fS b (.tuple ds) o (some (.im (.int (j : Nat)))) y z) (spB2.getD 1 dS) Q := by
  unfold fS at q ⊢
  have l1 := cut_len ds none (some ((j : Nat) : Int))
  have l2 := cut_len ds (some ((j : Int) + 1)) none
  have l3 := cut_len ds (some ((j : Nat) : Int)) (some ((j : Int) + 1))
  have l4 := cut_len ds (some ((j : Nat) : Int)) none
  refine ⟨_, _, rfl, _, _, rfl, _, rfl, _, _, rfl, _, _, rfl, _, rfl, _, addT (by simp only [sline]; omega), ?_⟩
  refine ⟨_, _, rfl, _, _, rfl, _, rfl, _, _, rfl, _, _, rfl, _, rfl, _, addT (by simp only [sline]; omega), _, _, rfl, _, _, rfl, _, rfl, _, addT (by simp only [sline, List.length_append]; omega), ?_⟩
  exact ⟨_, _, rfl, rfl, _, rfl, (by show 4 ≤ 100000; decide), _, rfl, q⟩
theorem A0_c2 {ds l4 : List D} {way : Int} {j : Nat} (w0 : 0 ≤ way) (w1 : way < 7) (hl : ds.length ≤ 30) (h4 : l4.length = 4) {b' : Nat} {m : Nat} (g4 : ∀ r ∈ l4, Gx m b' r) (g5 : Gx m b' (.tuple (ds ++ [o]))) (g6 : Gx m b' o) (g7 : Gx m b' (.tuple (cutD ds (some (j : Nat)) none ++ cutD ds none (some (j : Nat))))) (q : ∀ r, Gx m b' r → ∀ z', Q (.rt (.im r) (fS b (.tuple ds) o (some (.im (.int (j : Nat)))) (some (.im (.int way))) z'))) :
    wS0 13 (fS b (.tuple ds) o (some (.im (.int (j : Nat)))) (some (.im (.int way))) (some (.ow l4))) (spB2.getD 2 dS) Q := by
  have l1 := cut_len ds none (some ((j : Nat) : Int))
  have l2 := cut_len ds (some ((j : Nat) : Int)) none
  unfold fS at q ⊢
  obtain ⟨r, e, hr⟩ := atI_mem (xs := l4 ++ [.tuple (ds ++ [o]), o, .tuple (cutD ds (some (j : Nat)) none ++ cutD ds none (some (j : Nat)))]) w0 (by simp [h4]; omega)
  refine ⟨(by show 1 ≤ 100000; decide), _, addT (by simp only [sline, List.length_singleton]; omega), _, _, rfl, _, _, rfl, _, rfl, _, _, rfl, _, _, rfl, _, rfl, _, addT (by simp only [sline]; omega), (by show 3 ≤ 100000; decide), _, addL (by rw [h4]; exact (by decide : 4 + 3 ≤ sline)), r, e, q r ?_ _⟩
  rcases List.mem_append.mp hr with z | z
  · exact g4 r z
  · simp only [List.mem_cons, List.not_mem_nil, or_false] at z
    rcases z with rfl | rfl | rfl
    · exact g5
    · exact g6
    · exact g7
theorem spoil0_ok (hb : Box b) (hd : Th 0 d) (ho : Gx 3 30 o) : wRun spoil0 b [.im d, .im o] (SpOut 0) := by
  refine evFn_run (show wRunL (wS0 14) [(defBody (top 18)).getD 0 dS, (defBody (top 18)).getD 1 dS, (defBody (top 18)).getD 2 dS, (defBody (top 18)).getD 3 dS, (defBody (top 18)).getD 4 dS] (fS b d o none none none) _ from ?_)
  refine A0_0n hd (rk (A0_1 hb fun k b' k0 k1 hb' => rk (A0_2n hd (rk (A0_3 k0 k1 hd ho (fun r hr => ?_) (rk (A0_4 ?_)))))))
  · exact ⟨hb', r, rfl, hr⟩
  · exact ⟨hb', o, rfl, ho.mono (by omega) (Nat.le_refl _)⟩
end
/-! level 1 -/
abbrev cS1 : Cf := ⟨["_law_box_here", "_law_thing", "_law_odd_here", "_law_at", "_law_way", "_law_some"], gl, F15, ({ b := false } : Xt)⟩
abbrev wS1 (m : Nat) : Rho → Stmt → (Fl → Prop) → Prop := wxs cS1 14 (defScope (top 18)) (okB ⟨true, 3, fun _ _ => none⟩) 200 m
section
variable {b : List D} {d o : D} {x y z : Option Sl} {Q : Fl → Prop}
theorem A1_1 (hb : Box b) (q : ∀ k b', 0 ≤ k → k < 7 → Box b' → Q (.nx (fS b' d o x (some (.im (.int k))) z))) : wS1 14 (fS b d o x y z) ((defBody (top 18)).getD 1 dS) Q := by
  unfold fS at q ⊢
  exact ⟨rfl, tk hb (by decide) (by decide) fun k b' k0 k1 hb' => ⟨_, rfl, q k b' k0 k1 hb'⟩⟩
theorem A1_4 (q : Q (.rt (.im o) (fS b d o x y z))) : wS1 14 (fS b d o x y z) ((defBody (top 18)).getD 4 dS) Q := by
  unfold fS at q ⊢
  exact q
theorem A1_3 {way : Int} (w0 : 0 ≤ way) (w1 : way < 7) (hd : Th 0 d) (ho : Gx 3 30 o) (q : ∀ r, Gx 4 30 r → Q (.rt (.im r) (fS b d o x (some (.im (.int way))) z))) (q2 : Q (.nx (fS b d o x (some (.im (.int way))) z))) : wS1 14 (fS b d o x (some (.im (.int way))) z) ((defBody (top 18)).getD 3 dS) Q := by
  unfold fS at q q2 ⊢
  rcases hd with rfl | ⟨i, rfl, hi⟩ | rfl | rfl
  · exact ⟨_, rfl, brB_f rfl q2⟩
  · have n1 : (i + 1).natAbs < 1000000 := by omega
    have n2 : (i - 1).natAbs < 1000000 := by omega
    have n3 : (0 - i).natAbs < 1000000 := by omega
    have n4 : (i + 90).natAbs < 1000000 := by omega
    have n5 : i.natAbs < 1000000 := by omega
    have hs : bltD "str" [.int i] = some (.im (.str (toString i : String))) := by
      have e : bltD "str" [.int i] = if i.natAbs.log2 < 1920 then some (.im (.str (toString i : String))) else none := rfl
      rw [e, if_pos (by
        have := (cn_int (i := i) (by omega)).sh
        simpa only [PyData.showable, decide_eq_true_eq] using this)]
    obtain ⟨r, e, hr⟩ := atI_mem (xs := [.int (i + 1), .int (i - 1), .int (0 - i), .str (toString i : String), o, .int (i + 90), o]) w0 w1
    refine ⟨_, rfl, brB_t rfl ⟨_, rfl, _, rfl, _, rfl, _, hs, _, rfl, (by show 7 ≤ 100000; decide), r, e, q r ?_⟩⟩
    simp only [List.mem_cons, List.not_mem_nil, or_false] at hr
    rcases hr with rfl | rfl | rfl | rfl | rfl | rfl | rfl
    · exact gx_int n1
    · exact gx_int n2
    · exact gx_int n3
    · exact (gx_text n5).mono (by omega) (by omega)
    · exact ho.mono (by omega) (by omega)
    · exact gx_int n4
    · exact ho.mono (by omega) (by omega)
  · exact ⟨_, rfl, brB_f rfl q2⟩
  · exact ⟨_, rfl, brB_f rfl q2⟩
theorem A1_0n (hd : Th 0 d) (q : Q (.nx (fS b d o x y z))) : wS1 14 (fS b d o x y z) ((defBody (top 18)).getD 0 dS) Q := by
  unfold fS at q ⊢
  rcases hd with rfl | ⟨i, rfl, hi⟩ | rfl | rfl
  · exact ⟨_, rfl, brB_f rfl (brB_f rfl q)⟩
  · exact ⟨_, rfl, brB_f rfl (brB_f rfl q)⟩
  · exact ⟨_, rfl, brB_f rfl (brB_f rfl q)⟩
  · exact ⟨_, rfl, brB_f rfl (brB_f rfl q)⟩
theorem A1_2n (hd : Th 0 d) (q : Q (.nx (fS b d o x y z))) : wS1 14 (fS b d o x y z) ((defBody (top 18)).getD 2 dS) Q := by
  unfold fS at q ⊢
  rcases hd with rfl | ⟨i, rfl, hi⟩ | rfl | rfl
  · exact ⟨_, rfl, brB_f rfl q⟩
  · exact ⟨_, rfl, brB_f rfl q⟩
  · exact ⟨_, rfl, brB_f rfl q⟩
  · exact ⟨_, rfl, brB_f rfl q⟩
theorem A1_c0 {ds : List D} (hb : Box b) (hl : ds.length ≤ 30) (q : ∀ (k : Nat) b', k ≤ ds.length → Box b' → Q (.nx (fS b' (.tuple ds) o (some (.im (.int (k : Nat)))) y z))) : wS1 13 (fS b (.tuple ds) o x y z) (spB2.getD 0 dS) Q := by
  unfold fS at q ⊢
  refine ⟨_, rfl, _, rfl, rfl, tk hb (m := (ds.length : Nat) + 1) (by omega) (by omega) fun k b' k0 k1 hb' => ⟨_, rfl, ?_⟩⟩
  obtain ⟨j, rfl⟩ := Int.eq_ofNat_of_zero_le k0
  exact q j b' (by omega) hb'
theorem A1_c1 {ds : List D} {j : Nat} (hl : ds.length ≤ 30) (q : Q (.nx (fS b (.tuple ds) o (some (.im (.int (j : Nat)))) y (some (.ow [.tuple (cutD ds none (some (j : Nat)) ++ cutD ds (some ((j : Int) + 1)) none), .tuple (cutD ds none (some (j : Nat)) ++ cutD ds (some (j : Nat)) (some ((j : Int) + 1)) ++ cutD ds (some (j : Nat)) none), .tuple ds.reverse, .list ds]))))) :
    wS1 13 (fS b (.tuple ds) o (some (.im (.int (j : Nat)))) y z) (spB2.getD 1 dS) Q := by
  unfold fS at q ⊢
  have l1 := cut_len ds none (some ((j : Nat) : Int))
  have l2 := cut_len ds (some ((j : Int) + 1)) none
  have l3 := cut_len ds (some ((j : Nat) : Int)) (some ((j : Int) + 1))
  have l4 := cut_len ds (some ((j : Nat) : Int)) none
  refine ⟨_, _, rfl, _, _, rfl, _, rfl, _, _, rfl, _, _, rfl, _, rfl, _, addT (by simp only [sline]; omega), ?_⟩
  refine ⟨_, _, rfl, _, _, rfl, _, rfl, _, _, rfl, _, _, rfl, _, rfl, _, addT (by simp only [sline]; omega), _, _, rfl, _, _, rfl, _, rfl, _, addT (by simp only [sline, List.length_append]; omega), ?_⟩
  exact ⟨_, _, rfl, rfl, _, rfl, (by show 4 ≤ 100000; decide), _, rfl, q⟩
theorem A1_c2 {ds l4 : List D} {way : Int} {j : Nat} (w0 : 0 ≤ way) (w1 : way < 7) (hl : ds.length ≤ 30) (h4 : l4.length = 4) {b' : Nat} {m : Nat} (g4 : ∀ r ∈ l4, Gx m b' r) (g5 : Gx m b' (.tuple (ds ++ [o]))) (g6 : Gx m b' o) (g7 : Gx m b' (.tuple (cutD ds (some (j : Nat)) none ++ cutD ds none (some (j : Nat))))) (q : ∀ r, Gx m b' r → ∀ z', Q (.rt (.im r) (fS b (.tuple ds) o (some (.im (.int (j : Nat)))) (some (.im (.int way))) z'))) :
    wS1 13 (fS b (.tuple ds) o (some (.im (.int (j : Nat)))) (some (.im (.int way))) (some (.ow l4))) (spB2.getD 2 dS) Q := by
  have l1 := cut_len ds none (some ((j : Nat) : Int))
  have l2 := cut_len ds (some ((j : Nat) : Int)) none
  unfold fS at q ⊢
  obtain ⟨r, e, hr⟩ := atI_mem (xs := l4 ++ [.tuple (ds ++ [o]), o, .tuple (cutD ds (some (j : Nat)) none ++ cutD ds none (some (j : Nat)))]) w0 (by simp [h4]; omega)
  refine ⟨(by show 1 ≤ 100000; decide), _, addT (by simp only [sline, List.length_singleton]; omega), _, _, rfl, _, _, rfl, _, rfl, _, _, rfl, _, _, rfl, _, rfl, _, addT (by simp only [sline]; omega), (by show 3 ≤ 100000; decide), _, addL (by rw [h4]; exact (by decide : 4 + 3 ≤ sline)), r, e, q r ?_ _⟩
  rcases List.mem_append.mp hr with z | z
  · exact g4 r z
  · simp only [List.mem_cons, List.not_mem_nil, or_false] at z
    rcases z with rfl | rfl | rfl
    · exact g5
    · exact g6
    · exact g7
theorem A1_2r {e : Nat} {ds : List D} {way : Int} (w0 : 0 ≤ way) (w1 : way < 7) (hb : Box b) (hl : ds.length ≤ L e) (hd : ∀ u ∈ ds, Th e u) (ho : Gx 3 30 o) (q : ∀ b', Box b' → ∀ r, Gx (e + 5) (rr (e + 1)) r → ∀ x z, Q (.rt (.im r) (fS b' (.tuple ds) o x (some (.im (.int way))) z))) :
    wS1 14 (fS b (.tuple ds) o x (some (.im (.int way))) z) ((defBody (top 18)).getD 2 dS) Q := by
  have hl' : ds.length ≤ 30 := Nat.le_trans hl (L_30 e)
  have cm : ∀ {lo hi : Option Int}, ∀ u ∈ cutD ds lo hi, Th e u := fun u h => hd u (cut_mem h)
  have cl : ∀ (lo hi : Option Int), (cutD ds lo hi).length ≤ L e := fun lo hi => Nat.le_trans (cut_len ds lo hi) hl
  have b1 : ∀ n, n ≤ 3 * L e → n * (bb e + 1) ≤ rr (e + 1) := fun n hn => Nat.le_trans (Nat.mul_le_mul_right _ hn) (by simp only [rr]; omega)
  refine ⟨_, rfl, brB_t rfl ?_⟩
  show wRunL (wS1 13) [spB2.getD 0 dS, spB2.getD 1 dS, spB2.getD 2 dS] (fS b (.tuple ds) o x (some (.im (.int way))) z) Q
  refine A1_c0 hb hl' fun j b' hj hb' => rk (A1_c1 hl' (rk (A1_c2 (m := e + 5) (b' := rr (e + 1)) w0 w1 hl' rfl (fun r hr => ?_) ?_ ?_ ?_ fun r hr z' => q b' hb' r hr _ z')))
  · simp only [List.mem_cons, List.not_mem_nil, or_false] at hr
    rcases hr with rfl | rfl | rfl | rfl
    · refine (cn_row (k := e) (n := 3 * L e) (fun u h => ?_) ?_).g.mono (by omega) (b1 _ (Nat.le_refl _))
      · rcases List.mem_append.mp h with h | h
        · exact cm u h
        · exact cm u h
      · have := cl none (some ((j : Nat) : Int)); have := cl (some ((j : Int) + 1)) none
        rw [List.length_append]; omega
    · refine (cn_row (k := e) (n := 3 * L e) (fun u h => ?_) ?_).g.mono (by omega) (b1 _ (Nat.le_refl _))
      · rcases List.mem_append.mp h with h | h
        · rcases List.mem_append.mp h with h | h
          · exact cm u h
          · exact cm u h
        · exact cm u h
      · have := cl none (some ((j : Nat) : Int)); have := cl (some ((j : Nat) : Int)) (some ((j : Int) + 1)); have := cl (some ((j : Nat) : Int)) none
        rw [List.length_append, List.length_append]; omega
    · refine (cn_row (k := e) (n := 3 * L e) (fun u h => hd u (List.mem_reverse.mp h)) ?_).g.mono (by omega) (b1 _ (Nat.le_refl _))
      rw [List.length_reverse]; omega
    · exact (gx_lst (k := e) (n := 3 * L e) hd (by omega)).mono (by omega) (b1 _ (Nat.le_refl _))
  · have := gx_mid (k := e) (as := ds) (bs := []) (r := o) (n := 3 * L e) hd (fun u h => nomatch h) (by rw [List.length_nil]; omega) (m := e + 4) (by omega) (ho.mono (by omega) (Nat.le_refl _))
    rw [List.append_nil] at this
    exact this.mono (by omega) (by have := rr_30 e; simp only [rr]; omega)
  · exact ho.mono (by omega) (rr_30 (e + 1))
  · refine (cn_row (k := e) (n := 3 * L e) (fun u h => ?_) ?_).g.mono (by omega) (b1 _ (Nat.le_refl _))
    · rcases List.mem_append.mp h with h | h
      · exact cm u h
      · exact cm u h
    · have := cl none (some ((j : Nat) : Int)); have := cl (some ((j : Nat) : Int)) none
      rw [List.length_append]; omega
theorem A1_b0 {ds : List D} (hb : Box b) (hl : ds.length ≤ 30) (hne : 0 < ds.length) (q : ∀ (k : Nat) b', k < ds.length → Box b' → Q (.nx (fS b' (.tuple ds) o (some (.im (.int (k : Nat)))) y z))) : wS1 13 (fS b (.tuple ds) o x y z) (spB1.getD 0 dS) Q := by
  unfold fS at q ⊢
  refine ⟨_, rfl, rfl, tk hb (m := (ds.length : Nat)) (by omega) (by omega) fun k b' k0 k1 hb' => ⟨_, rfl, ?_⟩⟩
  obtain ⟨j, rfl⟩ := Int.eq_ofNat_of_zero_le k0
  exact q j b' (by omega) hb'
theorem A1_b1 {e : Nat} {ds : List D} {j : Nat} (he : e < 1) (hb : Box b) (hl : ds.length ≤ L e) (hd : ∀ u ∈ ds, Th e u) (ho : Gx 3 30 o) (hj : j < ds.length) (q : ∀ b', Box b' → ∀ r, Gx (1 + 4) (rr 1) r → Q (.rt (.im r) (fS b' (.tuple ds) o (some (.im (.int (j : Nat)))) y z))) :
    wS1 13 (fS b (.tuple ds) o (some (.im (.int (j : Nat)))) y z) (spB1.getD 1 dS) Q := by
  have hl' : ds.length ≤ 30 := Nat.le_trans hl (L_30 e)
  have c1 := cut_len ds none (some ((j : Nat) : Int))
  have c2 := cut_len ds (some ((j : Int) + 1)) none
  unfold fS at q ⊢
  refine ⟨_, _, rfl, _, _, rfl, _, rfl, _, atI_nat (List.getElem?_eq_getElem hj), rfl, wri (spoil0_ok hb (th_le (k := 0) (by omega) (hd _ (List.getElem_mem hj))) ho) fun s b2 ⟨hb2, r, e1, hr⟩ => ?_⟩
  subst e1
  refine ⟨(by show 1 ≤ 100000; decide), _, addT (by simp only [sline, List.length_singleton]; omega), _, _, rfl, _, _, rfl, _, rfl, _, addT (by simp only [sline, List.length_append, List.length_singleton]; omega), q b2 hb2 _ ?_⟩
  have l1 := Nat.le_trans c1 hl
  have l2 := Nat.le_trans c2 hl
  have := gx_mid (k := e) (as := cutD ds none (some ((j : Nat) : Int))) (bs := cutD ds (some ((j : Int) + 1)) none) (r := r) (n := 3 * L e) (fun u h => hd u (cut_mem h)) (fun u h => hd u (cut_mem h)) (by omega) (m := 0 + 4) (by omega) hr
  refine this.mono (by omega) ?_
  have z := le_rr (j := e) (k := 0) (by omega)
  omega
theorem A1_0r {e : Nat} {ds : List D} (he : e < 1) (hb : Box b) (hl : ds.length ≤ L e) (hd : ∀ u ∈ ds, Th e u) (ho : Gx 3 30 o) (q : ∀ b' y', Box b' → Q (.nx (fS b' (.tuple ds) o x y' z))) (q2 : ∀ b', Box b' → ∀ r, Gx (1 + 4) (rr 1) r → ∀ x y z, Q (.rt (.im r) (fS b' (.tuple ds) o x y z))) :
    wS1 14 (fS b (.tuple ds) o x y z) ((defBody (top 18)).getD 0 dS) Q := by
  have hl' : ds.length ≤ 30 := Nat.le_trans hl (L_30 e)
  have hth : Th (e + 1) (.tuple ds) := .inr ⟨ds, rfl, hl, hd⟩
  refine ⟨_, rfl, brB_t rfl ⟨Nat.zero_le _, _, ne_nil hth (by omega), ?_⟩⟩
  show brB (!ds.isEmpty) _ _
  cases hds : ds with
  | nil =>
    subst hds
    exact brB_f rfl (brB_f rfl (q b y hb))
  | cons d0 ds0 =>
    have hne : 0 < ds.length := by rw [hds]; simp
    rw [← hds]
    refine brB_t (by rw [hds]; rfl) ⟨rfl, tk hb (by decide) (by decide) fun k b' k0 k1 hb' => ⟨_, rfl, ?_⟩⟩
    show brB (decide (0 < k)) _ _
    cases hk : decide (0 < k) with
    | false => exact brB_f rfl (q b' y hb')
    | true =>
      refine brB_t rfl ?_
      show wRunL (wS1 13) [spB1.getD 0 dS, spB1.getD 1 dS] (fS b' (.tuple ds) o x y z) Q
      refine A1_b0 hb' hl' hne fun j b2 hj hb2 => rk (A1_b1 he hb2 hl hd ho hj fun b3 hb3 r hr => q2 b3 hb3 r hr _ _ _)
theorem spoil1_ok (hb : Box b) (hd : Th 1 d) (ho : Gx 3 30 o) : wRun spoil1 b [.im d, .im o] (SpOut 1) := by
  have r30 := rr_30 1
  refine evFn_run (show wRunL (wS1 14) [(defBody (top 18)).getD 0 dS, (defBody (top 18)).getD 1 dS, (defBody (top 18)).getD 2 dS, (defBody (top 18)).getD 3 dS, (defBody (top 18)).getD 4 dS] (fS b d o none none none) _ from ?_)
  rcases th_cases hd with ⟨e, ds, he, rfl, hl, hds⟩ | hd
  · refine A1_0r he hb hl hds ho (fun b1 y1 hb1 => rk (A1_1 hb1 fun w b2 w0 w1 hb2 => rk (A1_2r w0 w1 hb2 hl hds ho fun b3 hb3 r hr x z => ?_))) (fun b1 hb1 r hr x y z => ?_)
    · exact ⟨hb3, r, rfl, hr.mono (by omega) (rr_le he)⟩
    · exact ⟨hb1, r, rfl, hr⟩
  · refine A1_0n hd (rk (A1_1 hb fun k b' k0 k1 hb' => rk (A1_2n hd (rk (A1_3 k0 k1 hd ho (fun r hr => ?_) (rk (A1_4 ?_)))))))
    · exact ⟨hb', r, rfl, hr.mono (by omega) r30⟩
    · exact ⟨hb', o, rfl, ho.mono (by omega) r30⟩
end
/-! level 2 -/
abbrev cS2 : Cf := ⟨["_law_box_here", "_law_thing", "_law_odd_here", "_law_at", "_law_way", "_law_some"], gl, F16, ({ b := false } : Xt)⟩
abbrev wS2 (m : Nat) : Rho → Stmt → (Fl → Prop) → Prop := wxs cS2 14 (defScope (top 18)) (okB ⟨true, 3, fun _ _ => none⟩) 200 m
section
variable {b : List D} {d o : D} {x y z : Option Sl} {Q : Fl → Prop}
theorem A2_1 (hb : Box b) (q : ∀ k b', 0 ≤ k → k < 7 → Box b' → Q (.nx (fS b' d o x (some (.im (.int k))) z))) : wS2 14 (fS b d o x y z) ((defBody (top 18)).getD 1 dS) Q := by
  unfold fS at q ⊢
  exact ⟨rfl, tk hb (by decide) (by decide) fun k b' k0 k1 hb' => ⟨_, rfl, q k b' k0 k1 hb'⟩⟩
theorem A2_4 (q : Q (.rt (.im o) (fS b d o x y z))) : wS2 14 (fS b d o x y z) ((defBody (top 18)).getD 4 dS) Q := by
  unfold fS at q ⊢
  exact q
theorem A2_3 {way : Int} (w0 : 0 ≤ way) (w1 : way < 7) (hd : Th 0 d) (ho : Gx 3 30 o) (q : ∀ r, Gx 4 30 r → Q (.rt (.im r) (fS b d o x (some (.im (.int way))) z))) (q2 : Q (.nx (fS b d o x (some (.im (.int way))) z))) : wS2 14 (fS b d o x (some (.im (.int way))) z) ((defBody (top 18)).getD 3 dS) Q := by
  unfold fS at q q2 ⊢
  rcases hd with rfl | ⟨i, rfl, hi⟩ | rfl | rfl
  · exact ⟨_, rfl, brB_f rfl q2⟩
  · have n1 : (i + 1).natAbs < 1000000 := by omega
    have n2 : (i - 1).natAbs < 1000000 := by omega
    have n3 : (0 - i).natAbs < 1000000 := by omega
    have n4 : (i + 90).natAbs < 1000000 := by omega
    have n5 : i.natAbs < 1000000 := by omega
    have hs : bltD "str" [.int i] = some (.im (.str (toString i : String))) := by
      have e : bltD "str" [.int i] = if i.natAbs.log2 < 1920 then some (.im (.str (toString i : String))) else none := rfl
      rw [e, if_pos (by
        have := (cn_int (i := i) (by omega)).sh
        simpa only [PyData.showable, decide_eq_true_eq] using this)]
    obtain ⟨r, e, hr⟩ := atI_mem (xs := [.int (i + 1), .int (i - 1), .int (0 - i), .str (toString i : String), o, .int (i + 90), o]) w0 w1
    refine ⟨_, rfl, brB_t rfl ⟨_, rfl, _, rfl, _, rfl, _, hs, _, rfl, (by show 7 ≤ 100000; decide), r, e, q r ?_⟩⟩
    simp only [List.mem_cons, List.not_mem_nil, or_false] at hr
    rcases hr with rfl | rfl | rfl | rfl | rfl | rfl | rfl
    · exact gx_int n1
    · exact gx_int n2
    · exact gx_int n3
    · exact (gx_text n5).mono (by omega) (by omega)
    · exact ho.mono (by omega) (by omega)
    · exact gx_int n4
    · exact ho.mono (by omega) (by omega)
  · exact ⟨_, rfl, brB_f rfl q2⟩
  · exact ⟨_, rfl, brB_f rfl q2⟩
theorem A2_0n (hd : Th 0 d) (q : Q (.nx (fS b d o x y z))) : wS2 14 (fS b d o x y z) ((defBody (top 18)).getD 0 dS) Q := by
  unfold fS at q ⊢
  rcases hd with rfl | ⟨i, rfl, hi⟩ | rfl | rfl
  · exact ⟨_, rfl, brB_f rfl (brB_f rfl q)⟩
  · exact ⟨_, rfl, brB_f rfl (brB_f rfl q)⟩
  · exact ⟨_, rfl, brB_f rfl (brB_f rfl q)⟩
  · exact ⟨_, rfl, brB_f rfl (brB_f rfl q)⟩
theorem A2_2n (hd : Th 0 d) (q : Q (.nx (fS b d o x y z))) : wS2 14 (fS b d o x y z) ((defBody (top 18)).getD 2 dS) Q := by
  unfold fS at q ⊢
  rcases hd with rfl | ⟨i, rfl, hi⟩ | rfl | rfl
  · exact ⟨_, rfl, brB_f rfl q⟩
  · exact ⟨_, rfl, brB_f rfl q⟩
  · exact ⟨_, rfl, brB_f rfl q⟩
  · exact ⟨_, rfl, brB_f rfl q⟩
theorem A2_c0 {ds : List D} (hb : Box b) (hl : ds.length ≤ 30) (q : ∀ (k : Nat) b', k ≤ ds.length → Box b' → Q (.nx (fS b' (.tuple ds) o (some (.im (.int (k : Nat)))) y z))) : wS2 13 (fS b (.tuple ds) o x y z) (spB2.getD 0 dS) Q := by
  unfold fS at q ⊢
  refine ⟨_, rfl, _, rfl, rfl, tk hb (m := (ds.length : Nat) + 1) (by omega) (by omega) fun k b' k0 k1 hb' => ⟨_, rfl, ?_⟩⟩
  obtain ⟨j, rfl⟩ := Int.eq_ofNat_of_zero_le k0
  exact q j b' (by omega) hb'
theorem A2_c1 {ds : List D} {j : Nat} (hl : ds.length ≤ 30) (q : Q (.nx (fS b (.tuple ds) o (some (.im (.int (j : Nat)))) y (some (.ow [.tuple (cutD ds none (some (j : Nat)) ++ cutD ds (some ((j : Int) + 1)) none), .tuple (cutD ds none (some (j : Nat)) ++ cutD ds (some (j : Nat)) (some ((j : Int) + 1)) ++ cutD ds (some (j : Nat)) none), .tuple ds.reverse, .list ds]))))) :
    wS2 13 (fS b (.tuple ds) o (some (.im (.int (j : Nat)))) y z) (spB2.getD 1 dS) Q := by
  unfold fS at q ⊢
  have l1 := cut_len ds none (some ((j : Nat) : Int))
  have l2 := cut_len ds (some ((j : Int) + 1)) none
  have l3 := cut_len ds (some ((j : Nat) : Int)) (some ((j : Int) + 1))
  have l4 := cut_len ds (some ((j : Nat) : Int)) none
  refine ⟨_, _, rfl, _, _, rfl, _, rfl, _, _, rfl, _, _, rfl, _, rfl, _, addT (by simp only [sline]; omega), ?_⟩
  refine ⟨_, _, rfl, _, _, rfl, _, rfl, _, _, rfl, _, _, rfl, _, rfl, _, addT (by simp only [sline]; omega), _, _, rfl, _, _, rfl, _, rfl, _, addT (by simp only [sline, List.length_append]; omega), ?_⟩
  exact ⟨_, _, rfl, rfl, _, rfl, (by show 4 ≤ 100000; decide), _, rfl, q⟩
theorem A2_c2 {ds l4 : List D} {way : Int} {j : Nat} (w0 : 0 ≤ way) (w1 : way < 7) (hl : ds.length ≤ 30) (h4 : l4.length = 4) {b' : Nat} {m : Nat} (g4 : ∀ r ∈ l4, Gx m b' r) (g5 : Gx m b' (.tuple (ds ++ [o]))) (g6 : Gx m b' o) (g7 : Gx m b' (.tuple (cutD ds (some (j : Nat)) none ++ cutD ds none (some (j : Nat))))) (q : ∀ r, Gx m b' r → ∀ z', Q (.rt (.im r) (fS b (.tuple ds) o (some (.im (.int (j : Nat)))) (some (.im (.int way))) z'))) :
    wS2 13 (fS b (.tuple ds) o (some (.im (.int (j : Nat)))) (some (.im (.int way))) (some (.ow l4))) (spB2.getD 2 dS) Q := by
  have l1 := cut_len ds none (some ((j : Nat) : Int))
  have l2 := cut_len ds (some ((j : Nat) : Int)) none
  unfold fS at q ⊢
  obtain ⟨r, e, hr⟩ := atI_mem (xs := l4 ++ [.tuple (ds ++ [o]), o, .tuple (cutD ds (some (j : Nat)) none ++ cutD ds none (some (j : Nat)))]) w0 (by simp [h4]; omega)
  refine ⟨(by show 1 ≤ 100000; decide), _, addT (by simp only [sline, List.length_singleton]; omega), _, _, rfl, _, _, rfl, _, rfl, _, _, rfl, _, _, rfl, _, rfl, _, addT (by simp only [sline]; omega), (by show 3 ≤ 100000; decide), _, addL (by rw [h4]; exact (by decide : 4 + 3 ≤ sline)), r, e, q r ?_ _⟩
  rcases List.mem_append.mp hr with z | z
  · exact g4 r z
  · simp only [List.mem_cons, List.not_mem_nil, or_false] at z
    rcases z with rfl | rfl | rfl
    · exact g5
    · exact g6
    · exact g7
theorem A2_2r {e : Nat} {ds : List D} {way : Int} (w0 : 0 ≤ way) (w1 : way < 7) (hb : Box b) (hl : ds.length ≤ L e) (hd : ∀ u ∈ ds, Th e u) (ho : Gx 3 30 o) (q : ∀ b', Box b' → ∀ r, Gx (e + 5) (rr (e + 1)) r → ∀ x z, Q (.rt (.im r) (fS b' (.tuple ds) o x (some (.im (.int way))) z))) :
    wS2 14 (fS b (.tuple ds) o x (some (.im (.int way))) z) ((defBody (top 18)).getD 2 dS) Q := by
  have hl' : ds.length ≤ 30 := Nat.le_trans hl (L_30 e)
  have cm : ∀ {lo hi : Option Int}, ∀ u ∈ cutD ds lo hi, Th e u := fun u h => hd u (cut_mem h)
  have cl : ∀ (lo hi : Option Int), (cutD ds lo hi).length ≤ L e := fun lo hi => Nat.le_trans (cut_len ds lo hi) hl
  have b1 : ∀ n, n ≤ 3 * L e → n * (bb e + 1) ≤ rr (e + 1) := fun n hn => Nat.le_trans (Nat.mul_le_mul_right _ hn) (by simp only [rr]; omega)
  refine ⟨_, rfl, brB_t rfl ?_⟩
  show wRunL (wS2 13) [spB2.getD 0 dS, spB2.getD 1 dS, spB2.getD 2 dS] (fS b (.tuple ds) o x (some (.im (.int way))) z) Q
  refine A2_c0 hb hl' fun j b' hj hb' => rk (A2_c1 hl' (rk (A2_c2 (m := e + 5) (b' := rr (e + 1)) w0 w1 hl' rfl (fun r hr => ?_) ?_ ?_ ?_ fun r hr z' => q b' hb' r hr _ z')))
  · simp only [List.mem_cons, List.not_mem_nil, or_false] at hr
    rcases hr with rfl | rfl | rfl | rfl
    · refine (cn_row (k := e) (n := 3 * L e) (fun u h => ?_) ?_).g.mono (by omega) (b1 _ (Nat.le_refl _))
      · rcases List.mem_append.mp h with h | h
        · exact cm u h
        · exact cm u h
      · have := cl none (some ((j : Nat) : Int)); have := cl (some ((j : Int) + 1)) none
        rw [List.length_append]; omega
    · refine (cn_row (k := e) (n := 3 * L e) (fun u h => ?_) ?_).g.mono (by omega) (b1 _ (Nat.le_refl _))
      · rcases List.mem_append.mp h with h | h
        · rcases List.mem_append.mp h with h | h
          · exact cm u h
          · exact cm u h
        · exact cm u h
      · have := cl none (some ((j : Nat) : Int)); have := cl (some ((j : Nat) : Int)) (some ((j : Int) + 1)); have := cl (some ((j : Nat) : Int)) none
        rw [List.length_append, List.length_append]; omega
    · refine (cn_row (k := e) (n := 3 * L e) (fun u h => hd u (List.mem_reverse.mp h)) ?_).g.mono (by omega) (b1 _ (Nat.le_refl _))
      rw [List.length_reverse]; omega
    · exact (gx_lst (k := e) (n := 3 * L e) hd (by omega)).mono (by omega) (b1 _ (Nat.le_refl _))
  · have := gx_mid (k := e) (as := ds) (bs := []) (r := o) (n := 3 * L e) hd (fun u h => nomatch h) (by rw [List.length_nil]; omega) (m := e + 4) (by omega) (ho.mono (by omega) (Nat.le_refl _))
    rw [List.append_nil] at this
    exact this.mono (by omega) (by have := rr_30 e; simp only [rr]; omega)
  · exact ho.mono (by omega) (rr_30 (e + 1))
  · refine (cn_row (k := e) (n := 3 * L e) (fun u h => ?_) ?_).g.mono (by omega) (b1 _ (Nat.le_refl _))
    · rcases List.mem_append.mp h with h | h
      · exact cm u h
      · exact cm u h
    · have := cl none (some ((j : Nat) : Int)); have := cl (some ((j : Nat) : Int)) none
      rw [List.length_append]; omega
theorem A2_b0 {ds : List D} (hb : Box b) (hl : ds.length ≤ 30) (hne : 0 < ds.length) (q : ∀ (k : Nat) b', k < ds.length → Box b' → Q (.nx (fS b' (.tuple ds) o (some (.im (.int (k : Nat)))) y z))) : wS2 13 (fS b (.tuple ds) o x y z) (spB1.getD 0 dS) Q := by
  unfold fS at q ⊢
  refine ⟨_, rfl, rfl, tk hb (m := (ds.length : Nat)) (by omega) (by omega) fun k b' k0 k1 hb' => ⟨_, rfl, ?_⟩⟩
  obtain ⟨j, rfl⟩ := Int.eq_ofNat_of_zero_le k0
  exact q j b' (by omega) hb'
theorem A2_b1 {e : Nat} {ds : List D} {j : Nat} (he : e < 2) (hb : Box b) (hl : ds.length ≤ L e) (hd : ∀ u ∈ ds, Th e u) (ho : Gx 3 30 o) (hj : j < ds.length) (q : ∀ b', Box b' → ∀ r, Gx (2 + 4) (rr 2) r → Q (.rt (.im r) (fS b' (.tuple ds) o (some (.im (.int (j : Nat)))) y z))) :
    wS2 13 (fS b (.tuple ds) o (some (.im (.int (j : Nat)))) y z) (spB1.getD 1 dS) Q := by
  have hl' : ds.length ≤ 30 := Nat.le_trans hl (L_30 e)
  have c1 := cut_len ds none (some ((j : Nat) : Int))
  have c2 := cut_len ds (some ((j : Int) + 1)) none
  unfold fS at q ⊢
  refine ⟨_, _, rfl, _, _, rfl, _, rfl, _, atI_nat (List.getElem?_eq_getElem hj), rfl, wri (spoil1_ok hb (th_le (k := 1) (by omega) (hd _ (List.getElem_mem hj))) ho) fun s b2 ⟨hb2, r, e1, hr⟩ => ?_⟩
  subst e1
  refine ⟨(by show 1 ≤ 100000; decide), _, addT (by simp only [sline, List.length_singleton]; omega), _, _, rfl, _, _, rfl, _, rfl, _, addT (by simp only [sline, List.length_append, List.length_singleton]; omega), q b2 hb2 _ ?_⟩
  have l1 := Nat.le_trans c1 hl
  have l2 := Nat.le_trans c2 hl
  have := gx_mid (k := e) (as := cutD ds none (some ((j : Nat) : Int))) (bs := cutD ds (some ((j : Int) + 1)) none) (r := r) (n := 3 * L e) (fun u h => hd u (cut_mem h)) (fun u h => hd u (cut_mem h)) (by omega) (m := 1 + 4) (by omega) hr
  refine this.mono (by omega) ?_
  have z := le_rr (j := e) (k := 1) (by omega)
  omega
theorem A2_0r {e : Nat} {ds : List D} (he : e < 2) (hb : Box b) (hl : ds.length ≤ L e) (hd : ∀ u ∈ ds, Th e u) (ho : Gx 3 30 o) (q : ∀ b' y', Box b' → Q (.nx (fS b' (.tuple ds) o x y' z))) (q2 : ∀ b', Box b' → ∀ r, Gx (2 + 4) (rr 2) r → ∀ x y z, Q (.rt (.im r) (fS b' (.tuple ds) o x y z))) :
    wS2 14 (fS b (.tuple ds) o x y z) ((defBody (top 18)).getD 0 dS) Q := by
  have hl' : ds.length ≤ 30 := Nat.le_trans hl (L_30 e)
  have hth : Th (e + 1) (.tuple ds) := .inr ⟨ds, rfl, hl, hd⟩
  refine ⟨_, rfl, brB_t rfl ⟨Nat.zero_le _, _, ne_nil hth (by omega), ?_⟩⟩
  show brB (!ds.isEmpty) _ _
  cases hds : ds with
  | nil =>
    subst hds
    exact brB_f rfl (brB_f rfl (q b y hb))
  | cons d0 ds0 =>
    have hne : 0 < ds.length := by rw [hds]; simp
    rw [← hds]
    refine brB_t (by rw [hds]; rfl) ⟨rfl, tk hb (by decide) (by decide) fun k b' k0 k1 hb' => ⟨_, rfl, ?_⟩⟩
    show brB (decide (0 < k)) _ _
    cases hk : decide (0 < k) with
    | false => exact brB_f rfl (q b' y hb')
    | true =>
      refine brB_t rfl ?_
      show wRunL (wS2 13) [spB1.getD 0 dS, spB1.getD 1 dS] (fS b' (.tuple ds) o x y z) Q
      refine A2_b0 hb' hl' hne fun j b2 hj hb2 => rk (A2_b1 he hb2 hl hd ho hj fun b3 hb3 r hr => q2 b3 hb3 r hr _ _ _)
theorem spoil2_ok (hb : Box b) (hd : Th 2 d) (ho : Gx 3 30 o) : wRun spoil2 b [.im d, .im o] (SpOut 2) := by
  have r30 := rr_30 2
  refine evFn_run (show wRunL (wS2 14) [(defBody (top 18)).getD 0 dS, (defBody (top 18)).getD 1 dS, (defBody (top 18)).getD 2 dS, (defBody (top 18)).getD 3 dS, (defBody (top 18)).getD 4 dS] (fS b d o none none none) _ from ?_)
  rcases th_cases hd with ⟨e, ds, he, rfl, hl, hds⟩ | hd
  · refine A2_0r he hb hl hds ho (fun b1 y1 hb1 => rk (A2_1 hb1 fun w b2 w0 w1 hb2 => rk (A2_2r w0 w1 hb2 hl hds ho fun b3 hb3 r hr x z => ?_))) (fun b1 hb1 r hr x y z => ?_)
    · exact ⟨hb3, r, rfl, hr.mono (by omega) (rr_le he)⟩
    · exact ⟨hb1, r, rfl, hr⟩
  · refine A2_0n hd (rk (A2_1 hb fun k b' k0 k1 hb' => rk (A2_2n hd (rk (A2_3 k0 k1 hd ho (fun r hr => ?_) (rk (A2_4 ?_)))))))
    · exact ⟨hb', r, rfl, hr.mono (by omega) r30⟩
    · exact ⟨hb', o, rfl, ho.mono (by omega) r30⟩
end
/-! level 3 -/
abbrev cS3 : Cf := ⟨["_law_box_here", "_law_thing", "_law_odd_here", "_law_at", "_law_way", "_law_some"], gl, F17, ({ b := false } : Xt)⟩
abbrev wS3 (m : Nat) : Rho → Stmt → (Fl → Prop) → Prop := wxs cS3 14 (defScope (top 18)) (okB ⟨true, 3, fun _ _ => none⟩) 200 m
section
variable {b : List D} {d o : D} {x y z : Option Sl} {Q : Fl → Prop}
theorem A3_1 (hb : Box b) (q : ∀ k b', 0 ≤ k → k < 7 → Box b' → Q (.nx (fS b' d o x (some (.im (.int k))) z))) : wS3 14 (fS b d o x y z) ((defBody (top 18)).getD 1 dS) Q := by
  unfold fS at q ⊢
  exact ⟨rfl, tk hb (by decide) (by decide) fun k b' k0 k1 hb' => ⟨_, rfl, q k b' k0 k1 hb'⟩⟩
theorem A3_4 (q : Q (.rt (.im o) (fS b d o x y z))) : wS3 14 (fS b d o x y z) ((defBody (top 18)).getD 4 dS) Q := by
  unfold fS at q ⊢
  exact q
theorem A3_3 {way : Int} (w0 : 0 ≤ way) (w1 : way < 7) (hd : Th 0 d) (ho : Gx 3 30 o) (q : ∀ r, Gx 4 30 r → Q (.rt (.im r) (fS b d o x (some (.im (.int way))) z))) (q2 : Q (.nx (fS b d o x (some (.im (.int way))) z))) : wS3 14 (fS b d o x (some (.im (.int way))) z) ((defBody (top 18)).getD 3 dS) Q := by
  unfold fS at q q2 ⊢
  rcases hd with rfl | ⟨i, rfl, hi⟩ | rfl | rfl
  · exact ⟨_, rfl, brB_f rfl q2⟩
  · have n1 : (i + 1).natAbs < 1000000 := by omega
    have n2 : (i - 1).natAbs < 1000000 := by omega
    have n3 : (0 - i).natAbs < 1000000 := by omega
    have n4 : (i + 90).natAbs < 1000000 := by omega
    have n5 : i.natAbs < 1000000 := by omega
    have hs : bltD "str" [.int i] = some (.im (.str (toString i : String))) := by
      have e : bltD "str" [.int i] = if i.natAbs.log2 < 1920 then some (.im (.str (toString i : String))) else none := rfl
      rw [e, if_pos (by
        have := (cn_int (i := i) (by omega)).sh
        simpa only [PyData.showable, decide_eq_true_eq] using this)]
    obtain ⟨r, e, hr⟩ := atI_mem (xs := [.int (i + 1), .int (i - 1), .int (0 - i), .str (toString i : String), o, .int (i + 90), o]) w0 w1
    refine ⟨_, rfl, brB_t rfl ⟨_, rfl, _, rfl, _, rfl, _, hs, _, rfl, (by show 7 ≤ 100000; decide), r, e, q r ?_⟩⟩
    simp only [List.mem_cons, List.not_mem_nil, or_false] at hr
    rcases hr with rfl | rfl | rfl | rfl | rfl | rfl | rfl
    · exact gx_int n1
    · exact gx_int n2
    · exact gx_int n3
    · exact (gx_text n5).mono (by omega) (by omega)
    · exact ho.mono (by omega) (by omega)
    · exact gx_int n4
    · exact ho.mono (by omega) (by omega)
  · exact ⟨_, rfl, brB_f rfl q2⟩
  · exact ⟨_, rfl, brB_f rfl q2⟩
theorem A3_0n (hd : Th 0 d) (q : Q (.nx (fS b d o x y z))) : wS3 14 (fS b d o x y z) ((defBody (top 18)).getD 0 dS) Q := by
  unfold fS at q ⊢
  rcases hd with rfl | ⟨i, rfl, hi⟩ | rfl | rfl
  · exact ⟨_, rfl, brB_f rfl (brB_f rfl q)⟩
  · exact ⟨_, rfl, brB_f rfl (brB_f rfl q)⟩
  · exact ⟨_, rfl, brB_f rfl (brB_f rfl q)⟩
  · exact ⟨_, rfl, brB_f rfl (brB_f rfl q)⟩
theorem A3_2n (hd : Th 0 d) (q : Q (.nx (fS b d o x y z))) : wS3 14 (fS b d o x y z) ((defBody (top 18)).getD 2 dS) Q := by
  unfold fS at q ⊢
  rcases hd with rfl | ⟨i, rfl, hi⟩ | rfl | rfl
  · exact ⟨_, rfl, brB_f rfl q⟩
  · exact ⟨_, rfl, brB_f rfl q⟩
  · exact ⟨_, rfl, brB_f rfl q⟩
  · exact ⟨_, rfl, brB_f rfl q⟩
theorem A3_c0 {ds : List D} (hb : Box b) (hl : ds.length ≤ 30) (q : ∀ (k : Nat) b', k ≤ ds.length → Box b' → Q (.nx (fS b' (.tuple ds) o (some (.im (.int (k : Nat)))) y z))) : wS3 13 (fS b (.tuple ds) o x y z) (spB2.getD 0 dS) Q := by
  unfold fS at q ⊢
  refine ⟨_, rfl, _, rfl, rfl, tk hb (m := (ds.length : Nat) + 1) (by omega) (by omega) fun k b' k0 k1 hb' => ⟨_, rfl, ?_⟩⟩
  obtain ⟨j, rfl⟩ := Int.eq_ofNat_of_zero_le k0
  exact q j b' (by omega) hb'
theorem A3_c1 {ds : List D} {j : Nat} (hl : ds.length ≤ 30) (q : Q (.nx (fS b (.tuple ds) o (some (.im (.int (j : Nat)))) y (some (.ow [.tuple (cutD ds none (some (j : Nat)) ++ cutD ds (some ((j : Int) + 1)) none), .tuple (cutD ds none (some (j : Nat)) ++ cutD ds (some (j : Nat)) (some ((j : Int) + 1)) ++ cutD ds (some (j : Nat)) none), .tuple ds.reverse, .list ds]))))) :
    wS3 13 (fS b (.tuple ds) o (some (.im (.int (j : Nat)))) y z) (spB2.getD 1 dS) Q := by
  unfold fS at q ⊢
  have l1 := cut_len ds none (some ((j : Nat) : Int))
  have l2 := cut_len ds (some ((j : Int) + 1)) none
  have l3 := cut_len ds (some ((j : Nat) : Int)) (some ((j : Int) + 1))
  have l4 := cut_len ds (some ((j : Nat) : Int)) none
  refine ⟨_, _, rfl, _, _, rfl, _, rfl, _, _, rfl, _, _, rfl, _, rfl, _, addT (by simp only [sline]; omega), ?_⟩
  refine ⟨_, _, rfl, _, _, rfl, _, rfl, _, _, rfl, _, _, rfl, _, rfl, _, addT (by simp only [sline]; omega), _, _, rfl, _, _, rfl, _, rfl, _, addT (by simp only [sline, List.length_append]; omega), ?_⟩
  exact ⟨_, _, rfl, rfl, _, rfl, (by show 4 ≤ 100000; decide), _, rfl, q⟩
theorem A3_c2 {ds l4 : List D} {way : Int} {j : Nat} (w0 : 0 ≤ way) (w1 : way < 7) (hl : ds.length ≤ 30) (h4 : l4.length = 4) {b' : Nat} {m : Nat} (g4 : ∀ r ∈ l4, Gx m b' r) (g5 : Gx m b' (.tuple (ds ++ [o]))) (g6 : Gx m b' o) (g7 : Gx m b' (.tuple (cutD ds (some (j : Nat)) none ++ cutD ds none (some (j : Nat))))) (q : ∀ r, Gx m b' r → ∀ z', Q (.rt (.im r) (fS b (.tuple ds) o (some (.im (.int (j : Nat)))) (some (.im (.int way))) z'))) :
    wS3 13 (fS b (.tuple ds) o (some (.im (.int (j : Nat)))) (some (.im (.int way))) (some (.ow l4))) (spB2.getD 2 dS) Q := by
  have l1 := cut_len ds none (some ((j : Nat) : Int))
  have l2 := cut_len ds (some ((j : Nat) : Int)) none
  unfold fS at q ⊢
  obtain ⟨r, e, hr⟩ := atI_mem (xs := l4 ++ [.tuple (ds ++ [o]), o, .tuple (cutD ds (some (j : Nat)) none ++ cutD ds none (some (j : Nat)))]) w0 (by simp [h4]; omega)
  refine ⟨(by show 1 ≤ 100000; decide), _, addT (by simp only [sline, List.length_singleton]; omega), _, _, rfl, _, _, rfl, _, rfl, _, _, rfl, _, _, rfl, _, rfl, _, addT (by simp only [sline]; omega), (by show 3 ≤ 100000; decide), _, addL (by rw [h4]; exact (by decide : 4 + 3 ≤ sline)), r, e, q r ?_ _⟩
  rcases List.mem_append.mp hr with z | z
  · exact g4 r z
  · simp only [List.mem_cons, List.not_mem_nil, or_false] at z
    rcases z with rfl | rfl | rfl
    · exact g5
    · exact g6
    · exact g7
theorem A3_2r {e : Nat} {ds : List D} {way : Int} (w0 : 0 ≤ way) (w1 : way < 7) (hb : Box b) (hl : ds.length ≤ L e) (hd : ∀ u ∈ ds, Th e u) (ho : Gx 3 30 o) (q : ∀ b', Box b' → ∀ r, Gx (e + 5) (rr (e + 1)) r → ∀ x z, Q (.rt (.im r) (fS b' (.tuple ds) o x (some (.im (.int way))) z))) :
    wS3 14 (fS b (.tuple ds) o x (some (.im (.int way))) z) ((defBody (top 18)).getD 2 dS) Q := by
  have hl' : ds.length ≤ 30 := Nat.le_trans hl (L_30 e)
  have cm : ∀ {lo hi : Option Int}, ∀ u ∈ cutD ds lo hi, Th e u := fun u h => hd u (cut_mem h)
  have cl : ∀ (lo hi : Option Int), (cutD ds lo hi).length ≤ L e := fun lo hi => Nat.le_trans (cut_len ds lo hi) hl
  have b1 : ∀ n, n ≤ 3 * L e → n * (bb e + 1) ≤ rr (e + 1) := fun n hn => Nat.le_trans (Nat.mul_le_mul_right _ hn) (by simp only [rr]; omega)
  refine ⟨_, rfl, brB_t rfl ?_⟩
  show wRunL (wS3 13) [spB2.getD 0 dS, spB2.getD 1 dS, spB2.getD 2 dS] (fS b (.tuple ds) o x (some (.im (.int way))) z) Q
  refine A3_c0 hb hl' fun j b' hj hb' => rk (A3_c1 hl' (rk (A3_c2 (m := e + 5) (b' := rr (e + 1)) w0 w1 hl' rfl (fun r hr => ?_) ?_ ?_ ?_ fun r hr z' => q b' hb' r hr _ z')))
  · simp only [List.mem_cons, List.not_mem_nil, or_false] at hr
    rcases hr with rfl | rfl | rfl | rfl
    · refine (cn_row (k := e) (n := 3 * L e) (fun u h => ?_) ?_).g.mono (by omega) (b1 _ (Nat.le_refl _))
      · rcases List.mem_append.mp h with h | h
        · exact cm u h
        · exact cm u h
      · have := cl none (some ((j : Nat) : Int)); have := cl (some ((j : Int) + 1)) none
        rw [List.length_append]; omega
    · refine (cn_row (k := e) (n := 3 * L e) (fun u h => ?_) ?_).g.mono (by omega) (b1 _ (Nat.le_refl _))
      · rcases List.mem_append.mp h with h | h
        · rcases List.mem_append.mp h with h | h
          · exact cm u h
          · exact cm u h
        · exact cm u h
      · have := cl none (some ((j : Nat) : Int)); have := cl (some ((j : Nat) : Int)) (some ((j : Int) + 1)); have := cl (some ((j : Nat) : Int)) none
        rw [List.length_append, List.length_append]; omega
    · refine (cn_row (k := e) (n := 3 * L e) (fun u h => hd u (List.mem_reverse.mp h)) ?_).g.mono (by omega) (b1 _ (Nat.le_refl _))
      rw [List.length_reverse]; omega
    · exact (gx_lst (k := e) (n := 3 * L e) hd (by omega)).mono (by omega) (b1 _ (Nat.le_refl _))
  · have := gx_mid (k := e) (as := ds) (bs := []) (r := o) (n := 3 * L e) hd (fun u h => nomatch h) (by rw [List.length_nil]; omega) (m := e + 4) (by omega) (ho.mono (by omega) (Nat.le_refl _))
    rw [List.append_nil] at this
    exact this.mono (by omega) (by have := rr_30 e; simp only [rr]; omega)
  · exact ho.mono (by omega) (rr_30 (e + 1))
  · refine (cn_row (k := e) (n := 3 * L e) (fun u h => ?_) ?_).g.mono (by omega) (b1 _ (Nat.le_refl _))
    · rcases List.mem_append.mp h with h | h
      · exact cm u h
      · exact cm u h
    · have := cl none (some ((j : Nat) : Int)); have := cl (some ((j : Nat) : Int)) none
      rw [List.length_append]; omega
theorem A3_b0 {ds : List D} (hb : Box b) (hl : ds.length ≤ 30) (hne : 0 < ds.length) (q : ∀ (k : Nat) b', k < ds.length → Box b' → Q (.nx (fS b' (.tuple ds) o (some (.im (.int (k : Nat)))) y z))) : wS3 13 (fS b (.tuple ds) o x y z) (spB1.getD 0 dS) Q := by
  unfold fS at q ⊢
  refine ⟨_, rfl, rfl, tk hb (m := (ds.length : Nat)) (by omega) (by omega) fun k b' k0 k1 hb' => ⟨_, rfl, ?_⟩⟩
  obtain ⟨j, rfl⟩ := Int.eq_ofNat_of_zero_le k0
  exact q j b' (by omega) hb'
theorem A3_b1 {e : Nat} {ds : List D} {j : Nat} (he : e < 3) (hb : Box b) (hl : ds.length ≤ L e) (hd : ∀ u ∈ ds, Th e u) (ho : Gx 3 30 o) (hj : j < ds.length) (q : ∀ b', Box b' → ∀ r, Gx (3 + 4) (rr 3) r → Q (.rt (.im r) (fS b' (.tuple ds) o (some (.im (.int (j : Nat)))) y z))) :
    wS3 13 (fS b (.tuple ds) o (some (.im (.int (j : Nat)))) y z) (spB1.getD 1 dS) Q := by
  have hl' : ds.length ≤ 30 := Nat.le_trans hl (L_30 e)
  have c1 := cut_len ds none (some ((j : Nat) : Int))
  have c2 := cut_len ds (some ((j : Int) + 1)) none
  unfold fS at q ⊢
  refine ⟨_, _, rfl, _, _, rfl, _, rfl, _, atI_nat (List.getElem?_eq_getElem hj), rfl, wri (spoil2_ok hb (th_le (k := 2) (by omega) (hd _ (List.getElem_mem hj))) ho) fun s b2 ⟨hb2, r, e1, hr⟩ => ?_⟩
  subst e1
  refine ⟨(by show 1 ≤ 100000; decide), _, addT (by simp only [sline, List.length_singleton]; omega), _, _, rfl, _, _, rfl, _, rfl, _, addT (by simp only [sline, List.length_append, List.length_singleton]; omega), q b2 hb2 _ ?_⟩
  have l1 := Nat.le_trans c1 hl
  have l2 := Nat.le_trans c2 hl
  have := gx_mid (k := e) (as := cutD ds none (some ((j : Nat) : Int))) (bs := cutD ds (some ((j : Int) + 1)) none) (r := r) (n := 3 * L e) (fun u h => hd u (cut_mem h)) (fun u h => hd u (cut_mem h)) (by omega) (m := 2 + 4) (by omega) hr
  refine this.mono (by omega) ?_
  have z := le_rr (j := e) (k := 2) (by omega)
  omega
theorem A3_0r {e : Nat} {ds : List D} (he : e < 3) (hb : Box b) (hl : ds.length ≤ L e) (hd : ∀ u ∈ ds, Th e u) (ho : Gx 3 30 o) (q : ∀ b' y', Box b' → Q (.nx (fS b' (.tuple ds) o x y' z))) (q2 : ∀ b', Box b' → ∀ r, Gx (3 + 4) (rr 3) r → ∀ x y z, Q (.rt (.im r) (fS b' (.tuple ds) o x y z))) :
    wS3 14 (fS b (.tuple ds) o x y z) ((defBody (top 18)).getD 0 dS) Q := by
  have hl' : ds.length ≤ 30 := Nat.le_trans hl (L_30 e)
  have hth : Th (e + 1) (.tuple ds) := .inr ⟨ds, rfl, hl, hd⟩
  refine ⟨_, rfl, brB_t rfl ⟨Nat.zero_le _, _, ne_nil hth (by omega), ?_⟩⟩
  show brB (!ds.isEmpty) _ _
  cases hds : ds with
  | nil =>
    subst hds
    exact brB_f rfl (brB_f rfl (q b y hb))
  | cons d0 ds0 =>
    have hne : 0 < ds.length := by rw [hds]; simp
    rw [← hds]
    refine brB_t (by rw [hds]; rfl) ⟨rfl, tk hb (by decide) (by decide) fun k b' k0 k1 hb' => ⟨_, rfl, ?_⟩⟩
    show brB (decide (0 < k)) _ _
    cases hk : decide (0 < k) with
    | false => exact brB_f rfl (q b' y hb')
    | true =>
      refine brB_t rfl ?_
      show wRunL (wS3 13) [spB1.getD 0 dS, spB1.getD 1 dS] (fS b' (.tuple ds) o x y z) Q
      refine A3_b0 hb' hl' hne fun j b2 hj hb2 => rk (A3_b1 he hb2 hl hd ho hj fun b3 hb3 r hr => q2 b3 hb3 r hr _ _ _)
theorem spoil3_ok (hb : Box b) (hd : Th 3 d) (ho : Gx 3 30 o) : wRun spoil3 b [.im d, .im o] (SpOut 3) := by
  have r30 := rr_30 3
  refine evFn_run (show wRunL (wS3 14) [(defBody (top 18)).getD 0 dS, (defBody (top 18)).getD 1 dS, (defBody (top 18)).getD 2 dS, (defBody (top 18)).getD 3 dS, (defBody (top 18)).getD 4 dS] (fS b d o none none none) _ from ?_)
  rcases th_cases hd with ⟨e, ds, he, rfl, hl, hds⟩ | hd
  · refine A3_0r he hb hl hds ho (fun b1 y1 hb1 => rk (A3_1 hb1 fun w b2 w0 w1 hb2 => rk (A3_2r w0 w1 hb2 hl hds ho fun b3 hb3 r hr x z => ?_))) (fun b1 hb1 r hr x y z => ?_)
    · exact ⟨hb3, r, rfl, hr.mono (by omega) (rr_le he)⟩
    · exact ⟨hb1, r, rfl, hr⟩
  · refine A3_0n hd (rk (A3_1 hb fun k b' k0 k1 hb' => rk (A3_2n hd (rk (A3_3 k0 k1 hd ho (fun r hr => ?_) (rk (A3_4 ?_)))))))
    · exact ⟨hb', r, rfl, hr.mono (by omega) r30⟩
    · exact ⟨hb', o, rfl, ho.mono (by omega) r30⟩
end
end K11

set_option Elab.async false
set_option linter.all false
set_option maxRecDepth 100000
set_option maxHeartbeats 400000
namespace K11
open PySem PySem.Spec L2 Dv
variable [TabC]
/-! ### the law's text -/
def lN : List Str := ["_law_script","_law_k","_law_box_here","_law_lesson_here","_law_party_here","_law_deed_here","_law_book","_law_turn","_law_full","_law_hour_here","_law_things","_law_thing","_law_held"]
def lawF : Fn := evFn lN gl F28 (top 29) false 1 (xtQ "_law_script" hkSD)
abbrev cL : Cf := ⟨lN, gl, F28, xtQ "_law_script" hkSD⟩
abbrev wL (m : Nat) : Rho → Stmt → (Fl → Prop) → Prop := wxs cL 14 (defScope (top 29)) (okB ⟨false, 1, fun _ _ => none⟩) 200 m
def lB : List Stmt := forB ((defBody (top 29)).getD 0 dS)
theorem we_sd {n : Nat} {sc : Scope} {ρ : Rho} {f g : Str} {pf pg pc pos : Pos} {a : Expr} {K : Sl → Rho → Prop} (hon : sc.names.lookup (Str.ofString "_law_script") = some NameKind.local) (hf : f = "sorted") (hg : g = "set") (h1 : globB sc "sorted" = true) (h2 : globB sc "set" = true) (ha : notStar a = true)
    (h : (ws cL n).d sc ρ a fun d ρ1 => ∃ ds : List Dd, (d = .list (ds.map ddD) ∨ d = .tuple (ds.map ddD)) ∧ ds.length < 64 ∧ K (.ow ((usortD ds).map ddD)) ρ1) : (ws cL (n + 1)).e sc ρ (.Call (.Name f pf) [.Call (.Name g pg) [a] [] pc] [] pos) K := by
  obtain ⟨d, ρ1, e, ds, hd, hl, q⟩ := (ws_ok cL n).d h
  refine we_hk (s := .ow ((usortD ds).map ddD)) (ρ' := ρ1) ?_ q
  have e4 : hkSD (evs cL n) sc ρ (.Call (.Name f pf) [.Call (.Name g pg) [a] [] pc] [] pos) = some (.ow ((usortD ds).map ddD), ρ1) := by
    unfold hkSD
    dsimp only
    rw [if_pos ⟨hf, hg, h1, h2, ha⟩, e]
    rcases hd with rfl | rfl
    · simp only [asDds_map, if_pos hl]
    · simp only [asDds_map, if_pos hl]
  show cond (decide (sc.names.lookup (Str.ofString "_law_script") = some NameKind.local)) (hkSD (evs cL n) sc ρ (.Call (.Name f pf) [.Call (.Name g pg) [a] [] pc] [] pos)) none = _
  rw [decide_eq_true hon]
  exact e4
theorem we_tup {n : Nat} {ρ : Rho} {pf pg pc pos : Pos} {a : Expr} {K : Sl → Rho → Prop} (h : (ws cL n).d (defScope (top 29)) ρ (.Call (.Name "sorted" pg) [a] [] pc) fun d ρ1 => ∃ s, bltD "tuple" [d] = some s ∧ K s ρ1) :
    (ws cL (n + 1)).e (defScope (top 29)) ρ (.Call (.Name "tuple" pf) [.Call (.Name "sorted" pg) [a] [] pc] [] pos) K := h
def om : Option D → Option Sl
  | none => none
  | some d => some (.im d)
def fL (ns : List Int) (k : Nat) (b : List D) (le pa de bk : Option Sl) (tu : Option D) (fu : Option Sl) (ho : Option D) (th tg he : Option Sl) : Rho := [some (.fz ns), some (.im (natD k)), some (.ow b), le, pa, de, bk, om tu, fu, om ho, th, tg, he]
section
variable {ns : List Int} {k : Nat} {b : List D} {le pa de bk fu th tg he : Option Sl} {tu ho : Option D} {Q : Fl → Prop}
theorem S1 (hb : Box b) (q : ∀ b' l, Box b' → OkLs l → Q (.nx (fL ns k b' (some (.im (lsD l))) pa de bk tu fu ho th tg he))) : wL 13 (fL ns k b le pa de bk tu fu ho th tg he) (lB.getD 1 dS) Q := by
  unfold fL at q ⊢
  refine ⟨rfl, wri (lawLesson_ok hb) fun s b1 ⟨hb1, l, e, hl⟩ => ?_⟩
  subst e
  exact ⟨_, rfl, q b1 l hb1 hl⟩
theorem S2 {l : Ls} (hb : Box b) (hl : OkLs l) (q : ∀ b' p d, Box b' → Party p → OkDd d → Q (.nx (fL ns k b' (some (.im (lsD l))) (some (.im (daysD p))) (some (.im (ddD d))) bk tu fu ho th tg he))) : wL 13 (fL ns k b (some (.im (lsD l))) pa de bk tu fu ho th tg he) (lB.getD 2 dS) Q := by
  unfold fL at q ⊢
  refine ⟨rfl, wri (lawParty_ok hb (by decide) (by decide)) fun s b1 ⟨hb1, p, e, hp⟩ => ?_⟩
  subst e
  refine ⟨rfl, wri (lawDeed_ok hb1 hl (by decide) (by decide)) fun s b2 ⟨hb2, d, e, hd⟩ => ?_⟩
  subst e
  exact ⟨⟨(by show 4 < 13; decide), (by show 5 < 13; decide), rfl, rfl, by decide⟩, q b2 p d hb2 hp hd⟩
theorem deeds_of {r : List D} (h : ∀ e ∈ r, ∃ d, e = ddD d ∧ OkDd d) : ∃ ds : List Dd, r = ds.map ddD ∧ ∀ d ∈ ds, OkDd d := by
  induction r with
  | nil => exact ⟨[], rfl, fun d h => (by cases h)⟩
  | cons e r ih =>
    obtain ⟨ds, h1, h2⟩ := ih fun e he => h e (List.mem_cons_of_mem _ he)
    obtain ⟨d, h3, h4⟩ := h e List.mem_cons_self
    refine ⟨d :: ds, by rw [h1, h3]; rfl, fun j hj => ?_⟩
    rcases List.mem_cons.mp hj with z | z
    · rw [z]; exact h4
    · exact h2 j z
theorem S3 {l : Ls} (hb : Box b) (hl : OkLs l) (q : ∀ b' ds, Box b' → OkBk ds → ds.length ≤ 20 → Q (.nx (fL ns k b' (some (.im (lsD l))) pa de (some (.im (bkD ds))) tu fu ho th tg he))) : wL 13 (fL ns k b (some (.im (lsD l))) pa de bk tu fu ho th tg he) (lB.getD 3 dS) Q := by
  unfold fL at q ⊢
  refine w_asgC (we_tup (show (ws cL 13).e _ _ _ _ from we_sd rfl rfl rfl rfl rfl rfl ?_))
  cases tu with
  | none =>
    refine ⟨rfl, tk hb (by decide) (by decide) fun n b2 k0 k1 hb2 => ⟨⟨by omega, by omega⟩, ?_⟩⟩
    obtain ⟨n, rfl⟩ := Int.eq_ofNat_of_zero_le k0
    refine loop_anyQ natD (fun e => ∃ d, e = ddD d ∧ OkDd d) (fun ρ => ∃ b, Box b ∧ ρ = [some (.fz ns), some (.im (natD k)), some (.ow b), some (.im (lsD l)), pa, de, bk, none, fu, om ho, th, tg, he]) (xs := List.range n) (by rw [Int.toNat_natCast]; exact range_nat n) (by simp [sline]; omega) ⟨b2, hb2, rfl⟩ (fun i hi ρ hρ => ?_) (fun r ρ' hρ hl hr => ?_)
    · obtain ⟨b, hb3, rfl⟩ := hρ
      obtain ⟨s, b4, e4, hb4, d, rfl, hd⟩ := lawDeed_ok hb3 hl (m := 10) (by decide) (by decide)
      exact ⟨ddD d, wTurnI_ok ⟨_, rfl, rfl, _, _, e4, ⟨b4, hb4, rfl⟩, rfl⟩, d, rfl, hd⟩
    · obtain ⟨b, hb3, rfl⟩ := hρ
      obtain ⟨ds, rfl, hds⟩ := deeds_of hr
      have hl' : ds.length = n := by simpa using hl
      have u := usortD_len ds
      exact ⟨ds, .inl rfl, by omega, _, rfl, _, rfl, q b (usortD ds) hb3 ⟨by omega, fun d hd => hds d ((mem_usortD ds).mp hd), usortD_up ds⟩ (by omega)⟩
  | some dt =>
    refine ⟨rfl, tk hb (by decide) (by decide) fun n b2 k0 k1 hb2 => ⟨⟨by omega, by omega⟩, ?_⟩⟩
    obtain ⟨n, rfl⟩ := Int.eq_ofNat_of_zero_le k0
    refine loop_anyQ natD (fun e => ∃ d, e = ddD d ∧ OkDd d) (fun ρ => ∃ b, Box b ∧ ρ = [some (.fz ns), some (.im (natD k)), some (.ow b), some (.im (lsD l)), pa, de, bk, none, fu, om ho, th, tg, he]) (xs := List.range n) (by rw [Int.toNat_natCast]; exact range_nat n) (by simp [sline]; omega) ⟨b2, hb2, rfl⟩ (fun i hi ρ hρ => ?_) (fun r ρ' hρ hl hr => ?_)
    · obtain ⟨b, hb3, rfl⟩ := hρ
      obtain ⟨s, b4, e4, hb4, d, rfl, hd⟩ := lawDeed_ok hb3 hl (m := 10) (by decide) (by decide)
      exact ⟨ddD d, wTurnI_ok ⟨_, rfl, rfl, _, _, e4, ⟨b4, hb4, rfl⟩, rfl⟩, d, rfl, hd⟩
    · obtain ⟨b, hb3, rfl⟩ := hρ
      obtain ⟨ds, rfl, hds⟩ := deeds_of hr
      have hl' : ds.length = n := by simpa using hl
      have u := usortD_len ds
      exact ⟨ds, .inl rfl, by omega, _, rfl, _, rfl, q b (usortD ds) hb3 ⟨by omega, fun d hd => hds d ((mem_usortD ds).mp hd), usortD_up ds⟩ (by omega)⟩
/-- the full book -/
def fullD : List D := (List.range 24).map fun i => .tuple [natD i, .str "leave", .int 3]
theorem S4 (q : Q (.nx (fL ns k b le pa de bk tu (some (.im (.tuple fullD))) ho th tg he))) : wL 13 (fL ns k b le pa de bk tu fu ho th tg he) (lB.getD 4 dS) Q := by
  unfold fL at q ⊢
  cases ho with
  | none =>
    refine ⟨⟨by decide, by decide⟩, ?_⟩
    refine loop_mapQ natD (fun i => some (.tuple [natD i, .str "leave", .int 3])) (xs := List.range 24) (range_nat 24) (by simp [sline]) (fun i hi => wTurn_ok ⟨_, rfl, (by show 3 ≤ 100000; decide), rfl, rfl⟩) ?_
    rw [fm_some]
    exact ⟨_, rfl, _, rfl, q⟩
  | some dh =>
    refine ⟨⟨by decide, by decide⟩, ?_⟩
    refine loop_mapQ natD (fun i => some (.tuple [natD i, .str "leave", .int 3])) (xs := List.range 24) (range_nat 24) (by simp [sline]) (fun i hi => wTurn_ok ⟨_, rfl, (by show 3 ≤ 100000; decide), rfl, rfl⟩) ?_
    rw [fm_some]
    exact ⟨_, rfl, _, rfl, q⟩
end
end K11

set_option Elab.async false
set_option linter.all false
set_option maxRecDepth 100000
set_option maxHeartbeats 400000
namespace K11
open PySem PySem.Spec L2 Dv
variable [TabC]
def GT (d : D) : Prop := Gx 8 200000 d
theorem GT.show {d : D} (h : GT d) : showB d = true := Gx.show h (by decide) (by decide)
theorem GT.pd {d : D} (h : GT d) : Pd d := ⟨Gx.pd h, Nat.le_trans (Gx.bk h) (by decide)⟩
theorem th_n {i : Int} (h : 0 ≤ i ∧ i ≤ 100) : Th 0 (.int i) := .inr (.inl ⟨i, rfl, by omega⟩)
theorem th_lv : Th 0 (.str "leave") := .inr (.inr (.inl rfl))
theorem th_wi : Th 0 (.str "wish") := .inr (.inr (.inr rfl))
theorem th_ls {l : Ls} (h : OkLs l) : Th 1 (lsD l) := by
  have h1 := h.dy
  have h2 := h.pl
  have h3 := h.la
  refine .inr ⟨_, rfl, (show 3 ≤ 30 by decide), fun e he => ?_⟩
  simp only [List.mem_cons, List.not_mem_nil, or_false] at he
  rcases he with rfl | rfl | rfl
  · exact th_n (by omega)
  · exact th_n (by omega)
  · exact th_n (by omega)
theorem th_p {p : Ps} (h : Party p) : Th 1 (daysD p) := .inr ⟨_, rfl, by have := h.few; simp only [List.length_map]; exact Nat.le_trans this (by decide), fun e he => by
  obtain ⟨q, hq, rfl⟩ := List.mem_map.mp he
  have := h.pe q hq
  exact th_n (by omega)⟩
theorem th_d {d : Dd} (h : OkDd d) : Th 2 (ddD d) := by
  cases d with
  | wish j p =>
    have h : (0 ≤ j ∧ j ≤ 99) ∧ Party p := h
    refine .inr ⟨_, rfl, (show 3 ≤ 9 by decide), fun e he => ?_⟩
    simp only [List.mem_cons, List.not_mem_nil, or_false] at he
    rcases he with rfl | rfl | rfl
    · exact .inl (th_n (by omega))
    · exact .inl th_wi
    · exact th_p h.2
  | leave j q =>
    have h : (0 ≤ j ∧ j ≤ 99) ∧ 0 ≤ q ∧ q ≤ 9 := h
    refine .inr ⟨_, rfl, (show 3 ≤ 9 by decide), fun e he => ?_⟩
    simp only [List.mem_cons, List.not_mem_nil, or_false] at he
    rcases he with rfl | rfl | rfl
    · exact .inl (th_n (by omega))
    · exact .inl th_lv
    · exact .inl (th_n (by omega))
theorem th_ds {ds : List Dd} (h : ∀ d ∈ ds, OkDd d) : ∀ e ∈ ds.map ddD, Th 2 e := fun e he => by
  obtain ⟨c, hc, rfl⟩ := List.mem_map.mp he
  exact th_d (h c hc)
theorem th_bk {ds : List Dd} (h : OkBk ds) : Th 3 (bkD ds) := .inr ⟨_, rfl, by have := h.few; simp only [List.length_map]; exact Nat.le_trans this (by decide), th_ds h.ok⟩
theorem bb_le {k : Nat} (hk : k ≤ 2) : bb k ≤ 1859 := by
  rcases (show k = 0 ∨ k = 1 ∨ k = 2 by omega) with rfl | rfl | rfl <;> decide
theorem gt_th {k : Nat} (hk : k ≤ 3) {d : D} (h : Th k d) : GT d := by
  refine (th_cn h).g.mono (by omega) ?_
  rcases (show k = 0 ∨ k = 1 ∨ k = 2 ∨ k = 3 by omega) with rfl | rfl | rfl | rfl <;> decide
theorem gt_row {k : Nat} (hk : k ≤ 2) {as : List D} (ha : ∀ e ∈ as, Th k e) (hl : as.length ≤ 100) : GT (.tuple as) := by
  refine (cn_row ha hl).g.mono (by omega) ?_
  have := bb_le hk
  calc 100 * (bb k + 1) ≤ 100 * 1860 := Nat.mul_le_mul_left _ (by omega)
    _ ≤ 200000 := by decide
theorem gt_lst {k : Nat} (hk : k ≤ 2) {as : List D} (ha : ∀ e ∈ as, Th k e) (hl : as.length ≤ 100) : GT (.list as) := by
  refine (gx_lst ha hl).mono (by omega) ?_
  have := bb_le hk
  calc 100 * (bb k + 1) ≤ 100 * 1860 := Nat.mul_le_mul_left _ (by omega)
    _ ≤ 200000 := by decide
theorem gt_sp {k : Nat} (hk : k ≤ 3) {r : D} (h : Gx (k + 4) (rr k) r) : GT r := by
  refine h.mono (by omega) ?_
  rcases (show k = 0 ∨ k = 1 ∨ k = 2 ∨ k = 3 by omega) with rfl | rfl | rfl | rfl <;> decide
theorem th_full : ∀ e ∈ fullD, Th 1 e := fun e he => by
  obtain ⟨i, hi, rfl⟩ := List.mem_map.mp he
  have := List.mem_range.mp hi
  refine .inr ⟨_, rfl, (show 3 ≤ 30 by decide), fun e he => ?_⟩
  simp only [List.mem_cons, List.not_mem_nil, or_false] at he
  rcases he with rfl | rfl | rfl
  · exact .inr (.inl ⟨_, rfl, by omega⟩)
  · exact th_lv
  · exact th_n (by omega)
section
variable {ns : List Int} {k : Nat} {b : List D} {le pa de bk fu th tg he : Option Sl} {tu ho : Option D} {Q : Fl → Prop} {l : Ls} {p : Ps} {d : Dd} {ds : List Dd} {t : List D}
theorem S5 (hl : OkLs l) (hp : Party p) (hd : OkDd d) (hb : OkBk ds) (q : ∀ t : List D, t.length ≤ 8 → (∀ d ∈ t, GT d) → Q (.nx (fL ns k b (some (.im (lsD l))) (some (.im (daysD p))) (some (.im (ddD d))) (some (.im (bkD ds))) tu (some (.im (.tuple fullD))) ho (some (.ow t)) tg he))) :
    wL 13 (fL ns k b (some (.im (lsD l))) (some (.im (daysD p))) (some (.im (ddD d))) (some (.im (bkD ds))) tu (some (.im (.tuple fullD))) ho th tg he) (lB.getD 5 dS) Q := by
  have f1 := hb.few
  unfold fL at q ⊢
  refine ⟨(by show 3 ≤ 100000; decide), (by show 1 ≤ 100000; decide), _, addT (by decide), _, rfl, _, _, rfl, rfl, (by show 8 ≤ 100000; decide), _, rfl, q _ (by show 8 ≤ 8; decide) fun d hd' => ?_⟩
  simp only [List.mem_cons, List.not_mem_nil, or_false] at hd'
  rcases hd' with rfl | rfl | rfl | rfl | rfl | rfl | rfl | rfl
  · exact gt_th (by omega) (th_ls hl)
  · exact gt_th (by omega) (th_p hp)
  · exact gt_th (by omega) (th_d hd)
  · exact gt_th (by omega) (th_bk hb)
  · exact gt_row (k := 1) (by omega) th_full (by decide)
  · refine gt_row (k := 1) (by omega) (fun e h => ?_) (by decide)
    rcases List.mem_append.mp h with h | h
    · exact th_full e h
    · rw [List.mem_singleton.mp h]
      refine .inr ⟨_, rfl, (show 3 ≤ 30 by decide), fun e he => ?_⟩
      simp only [List.mem_cons, List.not_mem_nil, or_false] at he
      rcases he with rfl | rfl | rfl
      · exact th_n (by omega)
      · exact th_lv
      · exact th_n (by omega)
  · exact gt_lst (k := 2) (by omega) (th_ds hb.ok) (by rw [List.length_map]; omega)
  · exact gt_row (k := 2) (by omega) (fun e h => th_ds hb.ok e (List.mem_reverse.mp h)) (by rw [List.length_reverse, List.length_map]; omega)
theorem S6 (hp : Party p) (hb : OkBk ds) (ht : t.length ≤ 8) (hg : ∀ d ∈ t, GT d) (q : ∀ t : List D, t.length ≤ 15 → (∀ d ∈ t, GT d) → Q (.nx (fL ns k b le (some (.im (daysD p))) de (some (.im (bkD ds))) tu fu ho (some (.ow t)) tg he))) :
    wL 13 (fL ns k b le (some (.im (daysD p))) de (some (.im (bkD ds))) tu fu ho (some (.ow t)) tg he) (lB.getD 6 dS) Q := by
  have f1 := hb.few
  have f2 := hp.few
  have c1 := cut_len (ds.map ddD) (some (-1)) none
  rw [List.length_map] at c1
  unfold fL at q ⊢
  refine ⟨_, _, rfl, _, _, rfl, _, rfl, _, addT (by simp only [sline, List.length_map]; omega), _, _, rfl, rfl, (by show 4 ≤ 100000; decide), (by show 0 ≤ 100000; decide), (by show 3 ≤ 100000; decide), (by show 3 ≤ 100000; decide), (by show 3 ≤ 100000; decide), (by show 7 ≤ 100000; decide), _, addL (xs := t) (by simp only [sline]; exact (by show t.length + 7 ≤ 1000000; omega)), _, rfl, q _ (by rw [List.length_append]; exact (by show t.length + 7 ≤ 15; omega)) fun d hd' => ?_⟩
  rcases List.mem_append.mp hd' with h | h
  · exact hg d h
  · simp only [List.mem_cons, List.not_mem_nil, or_false] at h
    rcases h with rfl | rfl | rfl | rfl | rfl | rfl | rfl
    · refine gt_row (k := 2) (by omega) (fun e h => ?_) (by rw [List.length_append, List.length_map]; omega)
      rcases List.mem_append.mp h with h | h
      · exact th_ds hb.ok e h
      · exact th_ds hb.ok e (cut_mem h)
    · refine gt_row (k := 0) (by omega) (fun e h => ?_) (by rw [List.length_reverse, List.length_map]; omega)
      obtain ⟨x, hx, rfl⟩ := List.mem_map.mp (List.mem_reverse.mp h)
      have := hp.pe x hx
      exact th_n (by omega)
    all_goals exact gx_of (by decide +kernel)
theorem S7 (ht : t.length ≤ 15) (hg : ∀ d ∈ t, GT d) (q : ∀ t : List D, t.length ≤ 20 → (∀ d ∈ t, GT d) → Q (.nx (fL ns k b le pa de bk tu fu ho (some (.ow t)) tg he))) :
    wL 13 (fL ns k b le pa de bk tu fu ho (some (.ow t)) tg he) (lB.getD 7 dS) Q := by
  unfold fL at q ⊢
  refine ⟨(by show 3 ≤ 100000; decide), (by show 3 ≤ 100000; decide), (by show 1 ≤ 100000; decide), (by show 3 ≤ 100000; decide), (by show 0 ≤ 100000; decide), (by show 3 ≤ 100000; decide), (by show 1 ≤ 100000; decide), (by show 3 ≤ 100000; decide), (by show 5 ≤ 100000; decide), _, addL (xs := t) (by simp only [sline]; exact (by show t.length + 5 ≤ 1000000; omega)), _, rfl, q _ (by rw [List.length_append]; exact (by show t.length + 5 ≤ 20; omega)) fun d hd' => ?_⟩
  rcases List.mem_append.mp hd' with h | h
  · exact hg d h
  · simp only [List.mem_cons, List.not_mem_nil, or_false] at h
    rcases h with rfl | rfl | rfl | rfl | rfl
    all_goals exact gx_of (by decide +kernel)
theorem S8 (ht : t.length ≤ 20) (hg : ∀ d ∈ t, GT d) (q : ∀ t : List D, t.length ≤ 22 → (∀ d ∈ t, GT d) → Q (.nx (fL ns k b le pa de bk tu fu ho (some (.ow t)) tg he))) :
    wL 13 (fL ns k b le pa de bk tu fu ho (some (.ow t)) tg he) (lB.getD 8 dS) Q := by
  unfold fL at q ⊢
  refine ⟨(by show 3 ≤ 100000; decide), (by show 1 ≤ 100000; decide), (by show 3 ≤ 100000; decide), (by show 2 ≤ 100000; decide), _, addL (xs := t) (by simp only [sline]; exact (by show t.length + 2 ≤ 1000000; omega)), _, rfl, q _ (by rw [List.length_append]; exact (by show t.length + 2 ≤ 22; omega)) fun d hd' => ?_⟩
  rcases List.mem_append.mp hd' with h | h
  · exact hg d h
  · simp only [List.mem_cons, List.not_mem_nil, or_false] at h
    rcases h with rfl | rfl
    all_goals exact gx_of (by decide +kernel)
end
end K11

set_option Elab.async false
set_option linter.all false
set_option maxRecDepth 100000
set_option maxHeartbeats 400000
namespace K11
open PySem PySem.Spec L2 Dv
variable [TabC]
theorem cmpNeS (x : Str) : cmpD .NotEq (.str x) (.str x) = some false := by
  have e : cmpD .NotEq (.str x) (.str x) = some (!PyData.eqv (.str x) (.str x)) := rfl
  rw [e]
  simp [PyData.eqv]
theorem show_bool (v : Bool) : showB (.bool v) = true := rfl
def lBT : List Stmt := forB (lB.getD 9 dS)
def lBH : List Stmt := forB (lB.getD 10 dS)
section
variable {ns : List Int} {k : Nat} {b : List D} {le pa de bk fu th tg he : Option Sl} {tu ho : Option D} {Q : Fl → Prop} {l : Ls} {p : Ps} {d : Dd} {ds : List Dd} {t : List D}
theorem T0 (hl : OkLs l) (hp : Party p) (hb : Box b) (ht : t.length ≤ 100) (hg : ∀ d ∈ t, GT d) (q : ∀ b' t', Box b' → t'.length = t.length + 2 → (∀ d ∈ t', GT d) → Q (.nx (fL ns k b' (some (.im (lsD l))) (some (.im (daysD p))) de bk tu fu ho (some (.ow t')) tg he))) :
    wL 12 (fL ns k b (some (.im (lsD l))) (some (.im (daysD p))) de bk tu fu ho (some (.ow t)) tg he) (lBT.getD 0 dS) Q := by
  unfold fL at q ⊢
  refine ⟨rfl, wri (lawOdd_ok hb) fun s b1 ⟨hb1, o1, ho1, e⟩ => ?_⟩
  subst e
  refine ⟨rfl, wri (spoil3_ok hb1 (th_le (by omega) (th_ls hl)) (odd_g ho1)) fun s b2 ⟨hb2, r1, e, hr1⟩ => ?_⟩
  subst e
  refine ⟨rfl, wri (lawOdd_ok hb2) fun s b3 ⟨hb3, o2, ho2, e⟩ => ?_⟩
  subst e
  refine ⟨rfl, wri (spoil3_ok hb3 (th_le (by omega) (th_p hp)) (odd_g ho2)) fun s b4 ⟨hb4, r2, e, hr2⟩ => ?_⟩
  subst e
  refine ⟨(by show 2 ≤ 100000; decide), _, addL (xs := t) (by simp only [sline]; exact (by show t.length + 2 ≤ 1000000; omega)), _, rfl, q b4 _ hb4 (by rw [List.length_append]; rfl) fun d hd' => ?_⟩
  rcases List.mem_append.mp hd' with h | h
  · exact hg d h
  · simp only [List.mem_cons, List.not_mem_nil, or_false] at h
    rcases h with rfl | rfl
    · exact gt_sp (k := 3) (by omega) hr1
    · exact gt_sp (k := 3) (by omega) hr2
theorem T1 (hd : OkDd d) (hk : OkBk ds) (hb : Box b) (ht : t.length ≤ 100) (hg : ∀ d ∈ t, GT d) (q : ∀ b' t', Box b' → t'.length = t.length + 2 → (∀ d ∈ t', GT d) → Q (.nx (fL ns k b' le pa (some (.im (ddD d))) (some (.im (bkD ds))) tu fu ho (some (.ow t')) tg he))) :
    wL 12 (fL ns k b le pa (some (.im (ddD d))) (some (.im (bkD ds))) tu fu ho (some (.ow t)) tg he) (lBT.getD 1 dS) Q := by
  unfold fL at q ⊢
  refine ⟨rfl, wri (lawOdd_ok hb) fun s b1 ⟨hb1, o1, ho1, e⟩ => ?_⟩
  subst e
  refine ⟨rfl, wri (spoil3_ok hb1 (th_le (by omega) (th_d hd)) (odd_g ho1)) fun s b2 ⟨hb2, r1, e, hr1⟩ => ?_⟩
  subst e
  refine ⟨rfl, wri (lawOdd_ok hb2) fun s b3 ⟨hb3, o2, ho2, e⟩ => ?_⟩
  subst e
  refine ⟨rfl, wri (spoil3_ok hb3 (th_bk hk) (odd_g ho2)) fun s b4 ⟨hb4, r2, e, hr2⟩ => ?_⟩
  subst e
  refine ⟨(by show 2 ≤ 100000; decide), _, addL (xs := t) (by simp only [sline]; exact (by show t.length + 2 ≤ 1000000; omega)), _, rfl, q b4 _ hb4 (by rw [List.length_append]; rfl) fun d hd' => ?_⟩
  rcases List.mem_append.mp hd' with h | h
  · exact hg d h
  · simp only [List.mem_cons, List.not_mem_nil, or_false] at h
    rcases h with rfl | rfl
    · exact gt_sp (k := 3) (by omega) hr1
    · exact gt_sp (k := 3) (by omega) hr2
theorem S9 (hl : OkLs l) (hp : Party p) (hd : OkDd d) (hk : OkBk ds) (hb : Box b) (ht : t.length ≤ 22) (hg : ∀ d ∈ t, GT d) (q : ∀ b' t' tu', Box b' → t'.length ≤ 54 → (∀ d ∈ t', GT d) → Q (.nx (fL ns k b' (some (.im (lsD l))) (some (.im (daysD p))) (some (.im (ddD d))) (some (.im (bkD ds))) tu' fu ho (some (.ow t')) tg he))) :
    wL 13 (fL ns k b (some (.im (lsD l))) (some (.im (daysD p))) (some (.im (ddD d))) (some (.im (bkD ds))) tu fu ho (some (.ow t)) tg he) (lB.getD 9 dS) Q := by
  refine ⟨⟨by decide, by decide⟩, ?_⟩
  show OKf (forE _ _ (rangeD 8) _) _
  rw [range_nat]
  refine okf_for natD (fun i (_ : Unit) ρ => ∃ b t tu, Box b ∧ t.length ≤ 22 + 4 * i ∧ (∀ d ∈ t, GT d) ∧ ρ = fL ns k b (some (.im (lsD l))) (some (.im (daysD p))) (some (.im (ddD d))) (some (.im (bkD ds))) tu fu ho (some (.ow t)) tg he) (fun _ _ => ()) (xs := List.range 8) (s := ()) ⟨b, t, tu, hb, by omega, hg, rfl⟩ (fun i s ρ j hj hρ => ?_) (fun ρ' hρ => ?_)
  · obtain ⟨b1, t1, tu1, hb1, hl1, hg1, rfl⟩ := hρ
    have hi : i < 8 := by simpa using (List.getElem?_eq_some_iff.mp hj).1
    refine ⟨fL ns k b1 (some (.im (lsD l))) (some (.im (daysD p))) (some (.im (ddD d))) (some (.im (bkD ds))) (some (natD j)) fu ho (some (.ow t1)) tg he, rfl, wRunL_ok (wxs_ok _) _ _ _ ?_⟩
    show wRunL (wL 12) [lBT.getD 0 dS, lBT.getD 1 dS] (fL ns k b1 (some (.im (lsD l))) (some (.im (daysD p))) (some (.im (ddD d))) (some (.im (bkD ds))) (some (natD j)) fu ho (some (.ow t1)) tg he) _
    exact T0 hl hp hb1 (by omega) hg1 fun b2 t2 hb2 hl2 hg2 => rk (T1 hd hk hb2 (by omega) hg2 fun b3 t3 hb3 hl3 hg3 => ⟨_, rfl, b3, t3, _, hb3, by omega, hg3, rfl⟩)
  · obtain ⟨b1, t1, tu1, hb1, hl1, hg1, rfl⟩ := hρ
    exact q b1 t1 tu1 hb1 (by simpa using hl1) hg1
section
variable {x : D}
theorem H0 (h : GT x) (q : Q (.nx (fL ns k b le pa de bk tu fu ho th (some (.im x)) (some (.im (.str x.shown)))))) : wL 12 (fL ns k b le pa de bk tu fu ho th (some (.im x)) he) (lBH.getD 0 dS) Q := by
  unfold fL at q ⊢
  exact ⟨h.show, _, rfl, q⟩
theorem H1 (h : GT x) (q : Q (.nx (fL ns k b le pa de bk tu fu ho th (some (.im x)) he))) : wL 12 (fL ns k b le pa de bk tu fu ho th (some (.im x)) he) (lBH.getD 1 dS) Q := by
  unfold fL at q ⊢
  exact ⟨rfl, wr (isLesson_any h.pd.pd) ⟨rfl, show_bool _, rfl, wr (lawIsLesson_any h.pd.pd) ⟨rfl, show_bool _, _, cmpNeS _, brB_f rfl q⟩⟩⟩
theorem H2 (h : GT x) (q : Q (.nx (fL ns k b le pa de bk tu fu ho th (some (.im x)) he))) : wL 12 (fL ns k b le pa de bk tu fu ho th (some (.im x)) he) (lBH.getD 2 dS) Q := by
  unfold fL at q ⊢
  exact ⟨rfl, wr (isParty_any h.pd) ⟨rfl, show_bool _, rfl, wr (lawIsParty_any h.pd) ⟨rfl, show_bool _, _, cmpNeS _, brB_f rfl q⟩⟩⟩
theorem H3 (h : GT x) (q : Q (.nx (fL ns k b le pa de bk tu fu ho th (some (.im x)) he))) : wL 12 (fL ns k b le pa de bk tu fu ho th (some (.im x)) he) (lBH.getD 3 dS) Q := by
  unfold fL at q ⊢
  exact ⟨rfl, wr (isDeed_any h.pd) ⟨rfl, show_bool _, rfl, wr (lawIsDeed_any h.pd) ⟨rfl, show_bool _, _, cmpNeS _, brB_f rfl ⟨rfl, wr (isBook_any h.pd) ⟨rfl, show_bool _, rfl, wr (lawIsBook_any h.pd) ⟨rfl, show_bool _, _, cmpNeS _, brB_f rfl q⟩⟩⟩⟩⟩⟩
theorem H4 (h : GT x) (q : Q (.nx (fL ns k b le pa de bk tu fu ho th (some (.im x)) (some (.im (.str x.shown)))))) : wL 12 (fL ns k b le pa de bk tu fu ho th (some (.im x)) (some (.im (.str x.shown)))) (lBH.getD 4 dS) Q := by
  unfold fL at q ⊢
  exact ⟨h.show, _, cmpNeS _, brB_f rfl q⟩
end
theorem S10 (hb : Box b) (ht : t.length ≤ 54) (hg : ∀ d ∈ t, GT d) (q : ∀ b' th tg he, Q (.nx (fL ns k b' le pa de bk tu fu ho th tg he))) : wL 13 (fL ns k b le pa de bk tu fu ho (some (.ow t)) tg he) (lB.getD 10 dS) Q := by
  refine ⟨rfl, wri (lawOdd_ok hb) fun s b1 ⟨hb1, o1, ho1, e⟩ => ?_⟩
  subst e
  refine ⟨rfl, wri (lawOdd_ok hb1) fun s b2 ⟨hb2, o2, ho2, e⟩ => ?_⟩
  subst e
  refine ⟨(by show 2 ≤ 100000; decide), _, addL (xs := t) (by simp only [sline]; exact (by show t.length + 2 ≤ 1000000; omega)), ?_⟩
  have ha : ∀ d ∈ t ++ [o1, o2], GT d := fun d hd => by
    rcases List.mem_append.mp hd with h | h
    · exact hg d h
    · simp only [List.mem_cons, List.not_mem_nil, or_false] at h
      rcases h with rfl | rfl
      · exact (odd_g ho1).mono (by omega) (by omega)
      · exact (odd_g ho2).mono (by omega) (by omega)
  generalize t ++ [o1, o2] = X at ha ⊢
  show OKf (forE _ _ X (fL ns k b2 le pa de bk tu fu ho (some (.im (.list t))) tg he)) _
  rw [mapId X]
  refine okf_for (fun d => d) (fun i (_ : Unit) ρ => ∃ th tg he, ρ = fL ns k b2 le pa de bk tu fu ho th tg he) (fun _ _ => ()) (xs := X) (s := ()) ⟨_, _, _, rfl⟩ (fun i s ρ d hd' hρ => ?_) (fun ρ' hρ => ?_)
  · obtain ⟨t1, g1, e1, rfl⟩ := hρ
    have h := ha d (List.mem_of_getElem? hd')
    refine ⟨fL ns k b2 le pa de bk tu fu ho t1 (some (.im d)) e1, rfl, wRunL_ok (wxs_ok _) _ _ _ ?_⟩
    show wRunL (wL 12) [lBH.getD 0 dS, lBH.getD 1 dS, lBH.getD 2 dS, lBH.getD 3 dS, lBH.getD 4 dS] (fL ns k b2 le pa de bk tu fu ho t1 (some (.im d)) e1) _
    exact H0 h (rk (H1 h (rk (H2 h (rk (H3 h (rk (H4 h ⟨_, rfl, _, _, _, rfl⟩))))))))
  · obtain ⟨t1, g1, e1, rfl⟩ := hρ
    exact q _ _ _ _
end
theorem S0 {ns : List Int} {k : Nat} {x2 le pa de bk fu th tg he : Option Sl} {tu ho : Option D} {Q : Fl → Prop} (q : ∀ b, Box b → Q (.nx (fL ns k b le pa de bk tu fu ho th tg he))) :
    wL 13 [some (.fz ns), some (.im (natD k)), x2, le, pa, de, bk, om tu, fu, om ho, th, tg, he] (lB.getD 0 dS) Q := by
  unfold fL at q
  refine ⟨rfl, wri (lawBox_ok ns k) fun s b ⟨e, xs, e2, hb⟩ => ?_⟩
  subst e; subst e2
  exact ⟨rfl, _, rfl, q xs hb⟩
def RO (ns : List Int) (_ : Nat) (_ : Unit) (ρ : Rho) : Prop := ∃ (x1 x2 x3 x4 x5 x6 x8 x10 x11 x12 : Option Sl) (tu ho : Option D), ρ = [some (.fz ns), x1, x2, x3, x4, x5, x6, om tu, x8, om ho, x10, x11, x12]
theorem law_ok (ns : List Int) : wRun lawF [] [.fz ns] fun s bs => s = .im (.bool true) ∧ bs = [] := by
  refine evFn_run ⟨_, rfl, _, rfl, ⟨by split <;> (try split) <;> omega, by split <;> (try split) <;> omega⟩, ?_⟩
  rw [range_nat]
  refine okf_for natD (RO ns) (fun _ _ => ()) (s := ()) ⟨none, none, none, none, none, none, none, none, none, none, none, none, rfl⟩ (fun i s ρ k hk hρ => ?_) (fun ρ' hρ => ?_)
  · obtain ⟨x1, x2, x3, x4, x5, x6, x8, x10, x11, x12, tu, ho, rfl⟩ := hρ
    refine ⟨[some (.fz ns), some (.im (natD k)), x2, x3, x4, x5, x6, om tu, x8, om ho, x10, x11, x12], rfl, wRunL_ok (wxs_ok _) _ _ _ ?_⟩
    show wRunL (wL 13) [lB.getD 0 dS, lB.getD 1 dS, lB.getD 2 dS, lB.getD 3 dS, lB.getD 4 dS, lB.getD 5 dS, lB.getD 6 dS, lB.getD 7 dS, lB.getD 8 dS, lB.getD 9 dS, lB.getD 10 dS] [some (.fz ns), some (.im (natD k)), x2, x3, x4, x5, x6, om tu, x8, om ho, x10, x11, x12] _
    exact S0 fun b0 hb0 => rk (S1 hb0 fun b1 l hb1 hl => rk (S2 hb1 hl fun b2 p d hb2 hp hd => rk (S3 hb2 hl fun b3 ds hb3 hk _ => rk (S4 (rk (S5 hl hp hd hk fun t1 h1 g1 => rk (S6 hp hk h1 g1 fun t2 h2 g2 => rk (S7 h2 g2 fun t3 h3 g3 => rk (S8 h3 g3 fun t4 h4 g4 => rk (S9 hl hp hd hk hb3 h4 g4 fun b5 t5 tu5 hb5 h5 g5 => rk (S10 hb5 h5 g5 fun b6 th tg he => ⟨_, rfl, _, _, _, _, _, _, _, _, _, _, _, _, rfl⟩)))))))))))
  · obtain ⟨x1, x2, x3, x4, x5, x6, x8, x10, x11, x12, tu, ho, rfl⟩ := hρ
    exact ⟨rfl, rfl⟩
end K11

set_option Elab.async false
set_option linter.all false
set_option maxRecDepth 100000
set_option maxHeartbeats 400000
namespace K11
open PySem PySem.Spec L2 Dv
variable [TabC]
section
variable {P : Program} {w : World} {K : PySem.W.Frag} {mg : Str → Option Value} {base : Heap}
/-- what the top has left: each def at its address -/
structure Top (K : PySem.W.Frag) (mg : Str → Option Value) : Prop where
  d1 : ∃ f, mg "is_whole" = some (.ref f) ∧ DefK K "is_whole" (top 1) f
  d2 : ∃ f, mg "is_person" = some (.ref f) ∧ DefK K "is_person" (top 2) f
  d3 : ∃ f, mg "is_day" = some (.ref f) ∧ DefK K "is_day" (top 3) f
  d4 : ∃ f, mg "is_hour" = some (.ref f) ∧ DefK K "is_hour" (top 4) f
  d5 : ∃ f, mg "is_triple" = some (.ref f) ∧ DefK K "is_triple" (top 5) f
  d6 : ∃ f, mg "are_rising" = some (.ref f) ∧ DefK K "are_rising" (top 6) f
  d10 : ∃ f, mg "is_lesson" = some (.ref f) ∧ DefK K "is_lesson" (top 10) f
  d11 : ∃ f, mg "is_party" = some (.ref f) ∧ DefK K "is_party" (top 11) f
  d12 : ∃ f, mg "is_deed" = some (.ref f) ∧ DefK K "is_deed" (top 12) f
  d13 : ∃ f, mg "is_book" = some (.ref f) ∧ DefK K "is_book" (top 13) f
  d15 : ∃ f, mg "_law_box" = some (.ref f) ∧ DefK K "_law_box" (top 15) f
  d16 : ∃ f, mg "_law_take" = some (.ref f) ∧ DefK K "_law_take" (top 16) f
  d17 : ∃ f, mg "_law_is_from_to" = some (.ref f) ∧ DefK K "_law_is_from_to" (top 17) f
  d18 : ∃ f, mg "_law_spoil" = some (.ref f) ∧ DefK K "_law_spoil" (top 18) f
  d19 : ∃ f, mg "_law_odd" = some (.ref f) ∧ DefK K "_law_odd" (top 19) f
  d20 : ∃ f, mg "_law_rising" = some (.ref f) ∧ DefK K "_law_rising" (top 20) f
  d21 : ∃ f, mg "_law_lesson" = some (.ref f) ∧ DefK K "_law_lesson" (top 21) f
  d22 : ∃ f, mg "_law_party" = some (.ref f) ∧ DefK K "_law_party" (top 22) f
  d23 : ∃ f, mg "_law_hour" = some (.ref f) ∧ DefK K "_law_hour" (top 23) f
  d24 : ∃ f, mg "_law_deed" = some (.ref f) ∧ DefK K "_law_deed" (top 24) f
  d25 : ∃ f, mg "_law_is_lesson" = some (.ref f) ∧ DefK K "_law_is_lesson" (top 25) f
  d26 : ∃ f, mg "_law_is_party" = some (.ref f) ∧ DefK K "_law_is_party" (top 26) f
  d27 : ∃ f, mg "_law_is_deed" = some (.ref f) ∧ DefK K "_law_is_deed" (top 27) f
  d28 : ∃ f, mg "_law_is_book" = some (.ref f) ∧ DefK K "_law_is_book" (top 28) f
theorem sc1 : FnScope ["thing", "least", "most"] ["thing", "least", "most"] (defScope (top 1)) := ⟨rfl, rfl, rfl, by decide +kernel, rfl, by decide +kernel, by decide +kernel⟩
theorem mm0 (T : Top K mg) (M : MOk gl F0 P w K mg base 0) : MOk gl F1 P w K mg base 1 := by
  obtain ⟨f, h, D⟩ := T.d1
  exact M.next D sc1 h rfl (by decide) fun _ _ _ _ _ _ us hl => match us, hl with | [_, _, _], _ => rfl
theorem sc2 : FnScope ["thing"] ["thing"] (defScope (top 2)) := ⟨rfl, rfl, rfl, by decide +kernel, rfl, by decide +kernel, by decide +kernel⟩
theorem mm1 (T : Top K mg) (M : MOk gl F1 P w K mg base 1) : MOk gl F2 P w K mg base 2 := by
  obtain ⟨f, h, D⟩ := T.d2
  exact M.next D sc2 h rfl (by decide) fun _ _ _ _ _ _ us hl => match us, hl with | [_], _ => rfl
theorem sc3 : FnScope ["thing"] ["thing"] (defScope (top 3)) := ⟨rfl, rfl, rfl, by decide +kernel, rfl, by decide +kernel, by decide +kernel⟩
theorem mm2 (T : Top K mg) (M : MOk gl F2 P w K mg base 2) : MOk gl F3 P w K mg base 3 := by
  obtain ⟨f, h, D⟩ := T.d3
  exact M.next D sc3 h rfl (by decide) fun _ _ _ _ _ _ us hl => match us, hl with | [_], _ => rfl
theorem sc4 : FnScope ["thing"] ["thing"] (defScope (top 4)) := ⟨rfl, rfl, rfl, by decide +kernel, rfl, by decide +kernel, by decide +kernel⟩
theorem mm3 (T : Top K mg) (M : MOk gl F3 P w K mg base 3) : MOk gl F4 P w K mg base 4 := by
  obtain ⟨f, h, D⟩ := T.d4
  exact M.next D sc4 h rfl (by decide) fun _ _ _ _ _ _ us hl => match us, hl with | [_], _ => rfl
theorem sc5 : FnScope ["thing"] ["thing"] (defScope (top 5)) := ⟨rfl, rfl, rfl, by decide +kernel, rfl, by decide +kernel, by decide +kernel⟩
theorem mm4 (T : Top K mg) (M : MOk gl F4 P w K mg base 4) : MOk gl F5 P w K mg base 5 := by
  obtain ⟨f, h, D⟩ := T.d5
  exact M.next D sc5 h rfl (by decide) fun _ _ _ _ _ _ us hl => match us, hl with | [_], _ => rfl
theorem sc6 : FnScope ["thing", "is_one", "one", "ahead", "behind"] ["thing", "is_one"] (defScope (top 6)) := ⟨rfl, rfl, rfl, by decide +kernel, rfl, by decide +kernel, by decide +kernel⟩
theorem mm5 (T : Top K mg) (M : MOk gl F5 P w K mg base 5) : MOk gl F6 P w K mg base 6 := by
  obtain ⟨f, h, D⟩ := T.d6
  exact M.next D sc6 h rfl (by decide) fun _ _ _ _ _ _ us hl => match us, hl with | [_, _], _ => rfl
theorem sc10 : FnScope ["thing", "day", "places", "late"] ["thing"] (defScope (top 10)) := ⟨rfl, rfl, rfl, by decide +kernel, rfl, by decide +kernel, by decide +kernel⟩
theorem mm6 (T : Top K mg) (M : MOk gl F6 P w K mg base 6) : MOk gl F7 P w K mg base 7 := by
  obtain ⟨f, h, D⟩ := T.d10
  exact M.next D sc10 h rfl (by decide) fun _ _ _ _ _ _ us hl => match us, hl with | [_], _ => rfl
theorem sc11 : FnScope ["thing"] ["thing"] (defScope (top 11)) := ⟨rfl, rfl, rfl, by decide +kernel, rfl, by decide +kernel, by decide +kernel⟩
theorem mm7 (T : Top K mg) (M : MOk gl F7 P w K mg base 7) : MOk gl F8 P w K mg base 8 := by
  obtain ⟨f, h, D⟩ := T.d11
  exact M.next D sc11 h rfl (by decide) fun _ _ _ _ _ _ us hl => match us, hl with | [_], _ => rfl
theorem sc12 : FnScope ["thing", "hour", "word", "who"] ["thing"] (defScope (top 12)) := ⟨rfl, rfl, rfl, by decide +kernel, rfl, by decide +kernel, by decide +kernel⟩
theorem mm8 (T : Top K mg) (M : MOk gl F8 P w K mg base 8) : MOk gl F9 P w K mg base 9 := by
  obtain ⟨f, h, D⟩ := T.d12
  exact M.next D sc12 h rfl (by decide) fun _ _ _ _ _ _ us hl => match us, hl with | [_], _ => rfl
theorem mm9 (T : Top K mg) (M : MOk gl F9 P w K mg base 9) : MOk gl F10 P w K mg base 10 := by
  obtain ⟨f, h, D⟩ := T.d6
  exact M.next D sc6 h rfl (by decide) fun _ _ _ _ _ _ us hl => match us, hl with | [_, _], _ => rfl
theorem sc13 : FnScope ["thing"] ["thing"] (defScope (top 13)) := ⟨rfl, rfl, rfl, by decide +kernel, rfl, by decide +kernel, by decide +kernel⟩
theorem mm10 (T : Top K mg) (M : MOk gl F10 P w K mg base 10) : MOk gl F11 P w K mg base 11 := by
  obtain ⟨f, h, D⟩ := T.d13
  exact M.next D sc13 h rfl (by decide) fun _ _ _ _ _ _ us hl => match us, hl with | [_], _ => rfl
theorem sc15 : FnScope ["_law_script", "_law_k", "_law_cell"] ["_law_script", "_law_k"] (defScope (top 15)) := ⟨rfl, rfl, rfl, by decide +kernel, rfl, by decide +kernel, by decide +kernel⟩
theorem mm11 (T : Top K mg) (M : MOk gl F11 P w K mg base 11) : MOk gl F12 P w K mg base 12 := by
  obtain ⟨f, h, D⟩ := T.d15
  exact M.next D sc15 h rfl (by decide) fun _ _ _ _ _ _ us hl => match us, hl with | [_, _], _ => rfl
theorem sc16 : FnScope ["_law_box_here", "_law_many", "_law_digit", "_law_high"] ["_law_box_here", "_law_many"] (defScope (top 16)) := ⟨rfl, rfl, rfl, by decide +kernel, rfl, by decide +kernel, by decide +kernel⟩
theorem mm12 (T : Top K mg) (M : MOk gl F12 P w K mg base 12) : MOk gl F13 P w K mg base 13 := by
  obtain ⟨f, h, D⟩ := T.d16
  exact M.next D sc16 h rfl (by decide) fun _ _ _ _ _ _ us hl => match us, hl with | [_, _], _ => rfl
theorem sc17 : FnScope ["_law_thing", "_law_least", "_law_most"] ["_law_thing", "_law_least", "_law_most"] (defScope (top 17)) := ⟨rfl, rfl, rfl, by decide +kernel, rfl, by decide +kernel, by decide +kernel⟩
theorem mm13 (T : Top K mg) (M : MOk gl F13 P w K mg base 13) : MOk gl F14 P w K mg base 14 := by
  obtain ⟨f, h, D⟩ := T.d17
  exact M.next D sc17 h rfl (by decide) fun _ _ _ _ _ _ us hl => match us, hl with | [_, _, _], _ => rfl
theorem sc18 : FnScope ["_law_box_here", "_law_thing", "_law_odd_here", "_law_at", "_law_way", "_law_some"] ["_law_box_here", "_law_thing", "_law_odd_here"] (defScope (top 18)) := ⟨rfl, rfl, rfl, by decide +kernel, rfl, by decide +kernel, by decide +kernel⟩
theorem mm14 (T : Top K mg) (M : MOk gl F14 P w K mg base 14) : MOk gl F15 P w K mg base 15 := by
  obtain ⟨f, h, D⟩ := T.d18
  exact M.next D sc18 h rfl (by decide) fun _ _ _ _ _ _ us hl => match us, hl with | [_, _, _], _ => rfl
theorem mm15 (T : Top K mg) (M : MOk gl F15 P w K mg base 15) : MOk gl F16 P w K mg base 16 := by
  obtain ⟨f, h, D⟩ := T.d18
  exact M.next D sc18 h rfl (by decide) fun _ _ _ _ _ _ us hl => match us, hl with | [_, _, _], _ => rfl
theorem mm16 (T : Top K mg) (M : MOk gl F16 P w K mg base 16) : MOk gl F17 P w K mg base 17 := by
  obtain ⟨f, h, D⟩ := T.d18
  exact M.next D sc18 h rfl (by decide) fun _ _ _ _ _ _ us hl => match us, hl with | [_, _, _], _ => rfl
theorem mm17 (T : Top K mg) (M : MOk gl F17 P w K mg base 17) : MOk gl F18 P w K mg base 18 := by
  obtain ⟨f, h, D⟩ := T.d18
  exact M.next D sc18 h rfl (by decide) fun _ _ _ _ _ _ us hl => match us, hl with | [_, _, _], _ => rfl
theorem sc19 : FnScope ["_law_box_here", "_law_some"] ["_law_box_here"] (defScope (top 19)) := ⟨rfl, rfl, rfl, by decide +kernel, rfl, by decide +kernel, by decide +kernel⟩
theorem mm18 (T : Top K mg) (M : MOk gl F18 P w K mg base 18) : MOk gl F19 P w K mg base 19 := by
  obtain ⟨f, h, D⟩ := T.d19
  exact M.nextH D sc19 h rfl (by decide) fun _ _ _ _ _ _ us hl => match us, hl with | [_], _ => rfl
theorem sc20 : FnScope ["_law_row", "_law_one", "_law_other"] ["_law_row"] (defScope (top 20)) := ⟨rfl, rfl, rfl, by decide +kernel, rfl, by decide +kernel, by decide +kernel⟩
theorem mm19 (T : Top K mg) (M : MOk gl F19 P w K mg base 19) : MOk gl F20 P w K mg base 20 := by
  obtain ⟨f, h, D⟩ := T.d20
  exact M.next D sc20 h rfl (by decide) fun _ _ _ _ _ _ us hl => match us, hl with | [_], _ => rfl
theorem sc21 : FnScope ["_law_box_here", "_law_places"] ["_law_box_here"] (defScope (top 21)) := ⟨rfl, rfl, rfl, by decide +kernel, rfl, by decide +kernel, by decide +kernel⟩
theorem mm20 (T : Top K mg) (M : MOk gl F20 P w K mg base 20) : MOk gl F21 P w K mg base 21 := by
  obtain ⟨f, h, D⟩ := T.d21
  exact M.next D sc21 h rfl (by decide) fun _ _ _ _ _ _ us hl => match us, hl with | [_], _ => rfl
theorem sc22 : FnScope ["_law_box_here", "_law_persons", "_law_some", "_law_turn"] ["_law_box_here", "_law_persons"] (defScope (top 22)) := ⟨rfl, rfl, rfl, by decide +kernel, rfl, by decide +kernel, by decide +kernel⟩
theorem mm21 (T : Top K mg) (M : MOk gl F21 P w K mg base 21) : MOk gl F22 P w K mg base 22 := by
  obtain ⟨f, h, D⟩ := T.d22
  exact M.next D sc22 h rfl (by decide) fun _ _ _ _ _ _ us hl => match us, hl with | [_, _], _ => rfl
theorem sc23 : FnScope ["_law_box_here", "_law_lesson_here", "_law_edge", "_law_some"] ["_law_box_here", "_law_lesson_here"] (defScope (top 23)) := ⟨rfl, rfl, rfl, by decide +kernel, rfl, by decide +kernel, by decide +kernel⟩
theorem mm22 (T : Top K mg) (M : MOk gl F22 P w K mg base 22) : MOk gl F23 P w K mg base 23 := by
  obtain ⟨f, h, D⟩ := T.d23
  exact M.next D sc23 h rfl (by decide) fun _ _ _ _ _ _ us hl => match us, hl with | [_, _], _ => rfl
theorem sc24 : FnScope ["_law_box_here", "_law_lesson_here", "_law_persons", "_law_hour_here"] ["_law_box_here", "_law_lesson_here", "_law_persons"] (defScope (top 24)) := ⟨rfl, rfl, rfl, by decide +kernel, rfl, by decide +kernel, by decide +kernel⟩
theorem mm23 (T : Top K mg) (M : MOk gl F23 P w K mg base 23) : MOk gl F24 P w K mg base 24 := by
  obtain ⟨f, h, D⟩ := T.d24
  exact M.next D sc24 h rfl (by decide) fun _ _ _ _ _ _ us hl => match us, hl with | [_, _, _], _ => rfl
theorem sc25 : FnScope ["_law_thing"] ["_law_thing"] (defScope (top 25)) := ⟨rfl, rfl, rfl, by decide +kernel, rfl, by decide +kernel, by decide +kernel⟩
theorem mm24 (T : Top K mg) (M : MOk gl F24 P w K mg base 24) : MOk gl F25 P w K mg base 25 := by
  obtain ⟨f, h, D⟩ := T.d25
  exact M.next D sc25 h rfl (by decide) fun _ _ _ _ _ _ us hl => match us, hl with | [_], _ => rfl
theorem sc26 : FnScope ["_law_thing", "_law_one"] ["_law_thing"] (defScope (top 26)) := ⟨rfl, rfl, rfl, by decide +kernel, rfl, by decide +kernel, by decide +kernel⟩
theorem mm25 (T : Top K mg) (M : MOk gl F25 P w K mg base 25) : MOk gl F26 P w K mg base 26 := by
  obtain ⟨f, h, D⟩ := T.d26
  exact M.next D sc26 h rfl (by decide) fun _ _ _ _ _ _ us hl => match us, hl with | [_], _ => rfl
theorem sc27 : FnScope ["_law_thing"] ["_law_thing"] (defScope (top 27)) := ⟨rfl, rfl, rfl, by decide +kernel, rfl, by decide +kernel, by decide +kernel⟩
theorem mm26 (T : Top K mg) (M : MOk gl F26 P w K mg base 26) : MOk gl F27 P w K mg base 27 := by
  obtain ⟨f, h, D⟩ := T.d27
  exact M.next D sc27 h rfl (by decide) fun _ _ _ _ _ _ us hl => match us, hl with | [_], _ => rfl
theorem sc28 : FnScope ["_law_thing", "_law_deed_here"] ["_law_thing"] (defScope (top 28)) := ⟨rfl, rfl, rfl, by decide +kernel, rfl, by decide +kernel, by decide +kernel⟩
theorem mm27 (T : Top K mg) (M : MOk gl F27 P w K mg base 27) : MOk gl F28 P w K mg base 28 := by
  obtain ⟨f, h, D⟩ := T.d28
  exact M.next D sc28 h rfl (by decide) fun _ _ _ _ _ _ us hl => match us, hl with | [_], _ => rfl
theorem sc29 : FnScope ["_law_script", "_law_k", "_law_box_here", "_law_lesson_here", "_law_party_here", "_law_deed_here", "_law_book", "_law_turn", "_law_full", "_law_hour_here", "_law_things", "_law_thing", "_law_held"] ["_law_script"] (defScope (top 29)) := ⟨rfl, rfl, rfl, by decide +kernel, rfl, by decide +kernel, by decide +kernel⟩
theorem all_defs (T : Top K mg) (M : MOk gl F0 P w K mg base 0) : MOk gl F28 P w K mg base 28 := mm27 T (mm26 T (mm25 T (mm24 T (mm23 T (mm22 T (mm21 T (mm20 T (mm19 T (mm18 T (mm17 T (mm16 T (mm15 T (mm14 T (mm13 T (mm12 T (mm11 T (mm10 T (mm9 T (mm8 T (mm7 T (mm6 T (mm5 T (mm4 T (mm3 T (mm2 T (mm1 T (mm0 T M)))))))))))))))))))))))))))
def blts : List Str := ["len", "abs", "divmod", "max", "min", "sum", "sorted", "all", "any", "tuple", "list", "isinstance", "range", "enumerate", "zip", "set", "int", "bool", "str", "repr"]
theorem mB (T : Top K mg) (c0 : ∃ t, mg "MOST_DEEDS" = some (.int 24 t)) (c1 : ∃ t, mg "MOST_FRIENDS" = some (.int 3 t)) (z : ∀ x ∈ blts, mg x = none) : MOk gl F0 P w K mg base 0 where
  gl := fun x s h => by
    unfold gl at h
    split at h
    · rename_i e; subst e; cases h
      obtain ⟨t, e⟩ := c0
      exact ⟨_, .int 24, e, ⟨t, rfl⟩, fun _ _ _ _ H0 _ => rep_int (G := (K, mg)) (H := H0) _⟩
    · skip
      split at h
      · rename_i e; subst e; cases h
        obtain ⟨t, e⟩ := c1
        exact ⟨_, .int 3, e, ⟨t, rfl⟩, fun _ _ _ _ H0 _ => rep_int (G := (K, mg)) (H := H0) _⟩
      · skip
        split at h
        · rename_i e; subst e; cases h
          obtain ⟨f, e, _⟩ := T.d2
          exact ⟨_, .ref f, e, rfl, fun _ _ _ _ _ _ => ⟨f, rfl, e⟩⟩
        · skip
          split at h
          · rename_i e; subst e; cases h
            obtain ⟨f, e, _⟩ := T.d12
            exact ⟨_, .ref f, e, rfl, fun _ _ _ _ _ _ => ⟨f, rfl, e⟩⟩
          · skip
            cases h
  fns := fun x fn h => by cases h
  blt := fun x v h => by
    unfold bltV at h
    repeat' split at h
    all_goals first
      | (cases h; done)
      | (rename_i e; subst e; exact z _ (by decide))
      | (unfold bltV2 at h; split at h <;> first | (rename_i e; subst e; exact z _ (by decide)) | cases h)
  isi := ⟨z _ (by decide), z _ (by decide), z _ (by decide), z _ (by decide), z _ (by decide)⟩
  tys := ⟨z _ (by decide), z _ (by decide), z _ (by decide), z _ (by decide), z _ (by decide)⟩
end
end K11

set_option Elab.async false
set_option linter.all false
set_option maxRecDepth 100000
set_option maxHeartbeats 400000
namespace K11
open PySem PySem.Spec L2 Dv RZ
structure All (K : PySem.W.Frag) (mg : Str → Option Value) (fa : Addr) : Prop where
  T : Top K mg
  c0 : ∃ t, mg "MOST_DEEDS" = some (.int 24 t)
  c1 : ∃ t, mg "MOST_FRIENDS" = some (.int 3 t)
  z : ∀ x ∈ blts, mg x = none
  lk : ∃ (oc : Value) (od an : Option Addr) (osl : Array (Option Value)) (kV doc pm cdv ct : Value), K.lookup fa = some ⟨oc, od, .func (PySem.W.fnOf "law" "law" (defArgs (top 29)) (defBody (top 29)) (defScope (top 29)) .none kV doc pm an cdv ct), osl⟩ ∧ PySem.W.codeIn K cdv "law" = true
theorem law_at {l : PySem.W.OpenLaw} {w : World} {K : PySem.W.Frag} {mg : Str → Option Value} {fa : Addr} {h : Heap} (kin : K.In h) (A : All K mg fa) : LawC l w K 63 mg fa h [] := by
  refine ⟨fun p hp => (by cases hp), fun base s H a ns k1 k2 k3 k4 k5 e0 => ?_⟩
  obtain ⟨oc, od, an, osl, kV, doc, pm, cdv, ct, lk, hcd⟩ := A.lk
  letI I : TabC := ⟨[], 0⟩
  have tb : TbOk (untab H) H := ⟨fun p hp => (by cases hp), untab_no H⟩
  have M := all_defs A.T (mB (P := l.prog) (w := w) (base := base) A.T A.c0 A.c1 A.z)
  exact law_runsQ hkSD_ok (x := "_law_script") (N := lN) lk hcd sc29 (by decide) M ⟨rfl, by decide, by decide⟩ rfl (A.z _ (by decide)) (plain_fns M) e0 tb (untab_ex H) (untab_sq k5) (law_ok ns)
end K11

set_option Elab.async false
set_option linter.all false
set_option maxRecDepth 100000
set_option maxHeartbeats 1000000
namespace K11
open PySem PySem.Spec L2 Dv
theorem all_mk {K : PySem.W.Frag} {h : Heap} {mg : Str → Option Value} {fa : Addr} (X : K.In h) (G : h.Ns mainGlobals mg) (hfa : mg "law" = some (.ref fa)) {f1 f2 f3 f4 f5 f6 f10 f11 f12 f13 f15 f16 f17 f18 f19 f20 f21 f22 f23 f24 f25 f26 f27 f28 fLaw : Addr} {od1 an1 od2 an2 od3 an3 od4 an4 od5 an5 od6 an6 od10 an10 od11 an11 od12 an12 od13 an13 od15 an15 od16 an16 od17 an17 od18 an18 od19 an19 od20 an20 od21 an21 od22 an22 od23 an23 od24 an24 od25 an25 od26 an26 od27 an27 od28 an28 odLaw anLaw : Option Addr} {sl1 sl2 sl3 sl4 sl5 sl6 sl10 sl11 sl12 sl13 sl15 sl16 sl17 sl18 sl19 sl20 sl21 sl22 sl23 sl24 sl25 sl26 sl27 sl28 slLaw : Array (Option Value)} {oc1 kV1 dc1 pm1 cd1 ct1 oc2 kV2 dc2 pm2 cd2 ct2 oc3 kV3 dc3 pm3 cd3 ct3 oc4 kV4 dc4 pm4 cd4 ct4 oc5 kV5 dc5 pm5 cd5 ct5 oc6 kV6 dc6 pm6 cd6 ct6 oc10 kV10 dc10 pm10 cd10 ct10 oc11 kV11 dc11 pm11 cd11 ct11 oc12 kV12 dc12 pm12 cd12 ct12 oc13 kV13 dc13 pm13 cd13 ct13 oc15 kV15 dc15 pm15 cd15 ct15 oc16 kV16 dc16 pm16 cd16 ct16 oc17 kV17 dc17 pm17 cd17 ct17 oc18 kV18 dc18 pm18 cd18 ct18 oc19 kV19 dc19 pm19 cd19 ct19 oc20 kV20 dc20 pm20 cd20 ct20 oc21 kV21 dc21 pm21 cd21 ct21 oc22 kV22 dc22 pm22 cd22 ct22 oc23 kV23 dc23 pm23 cd23 ct23 oc24 kV24 dc24 pm24 cd24 ct24 oc25 kV25 dc25 pm25 cd25 ct25 oc26 kV26 dc26 pm26 cd26 ct26 oc27 kV27 dc27 pm27 cd27 ct27 oc28 kV28 dc28 pm28 cd28 ct28 ocLaw kVLaw dcLaw pmLaw cdLaw ctLaw : Value} {t0 t1 : Tok}
    (a1 : PySem.W.nsIn K mainGlobals "is_whole" = some (some (.ref f1)))
    (l1 : K.lookup f1 = some ⟨oc1, od1, .func (PySem.W.fnOf "is_whole" "is_whole" (defArgs (top 1)) (defBody (top 1)) (defScope (top 1)) .none kV1 dc1 pm1 an1 cd1 ct1), sl1⟩)
    (c1_ : PySem.W.codeIn K cd1 "is_whole" = true)
    (k1 : PySem.W.keepIn K (.ref f1) = true)
    (a2 : PySem.W.nsIn K mainGlobals "is_person" = some (some (.ref f2)))
    (l2 : K.lookup f2 = some ⟨oc2, od2, .func (PySem.W.fnOf "is_person" "is_person" (defArgs (top 2)) (defBody (top 2)) (defScope (top 2)) .none kV2 dc2 pm2 an2 cd2 ct2), sl2⟩)
    (c2_ : PySem.W.codeIn K cd2 "is_person" = true)
    (k2 : PySem.W.keepIn K (.ref f2) = true)
    (a3 : PySem.W.nsIn K mainGlobals "is_day" = some (some (.ref f3)))
    (l3 : K.lookup f3 = some ⟨oc3, od3, .func (PySem.W.fnOf "is_day" "is_day" (defArgs (top 3)) (defBody (top 3)) (defScope (top 3)) .none kV3 dc3 pm3 an3 cd3 ct3), sl3⟩)
    (c3_ : PySem.W.codeIn K cd3 "is_day" = true)
    (k3 : PySem.W.keepIn K (.ref f3) = true)
    (a4 : PySem.W.nsIn K mainGlobals "is_hour" = some (some (.ref f4)))
    (l4 : K.lookup f4 = some ⟨oc4, od4, .func (PySem.W.fnOf "is_hour" "is_hour" (defArgs (top 4)) (defBody (top 4)) (defScope (top 4)) .none kV4 dc4 pm4 an4 cd4 ct4), sl4⟩)
    (c4_ : PySem.W.codeIn K cd4 "is_hour" = true)
    (k4 : PySem.W.keepIn K (.ref f4) = true)
    (a5 : PySem.W.nsIn K mainGlobals "is_triple" = some (some (.ref f5)))
    (l5 : K.lookup f5 = some ⟨oc5, od5, .func (PySem.W.fnOf "is_triple" "is_triple" (defArgs (top 5)) (defBody (top 5)) (defScope (top 5)) .none kV5 dc5 pm5 an5 cd5 ct5), sl5⟩)
    (c5_ : PySem.W.codeIn K cd5 "is_triple" = true)
    (k5 : PySem.W.keepIn K (.ref f5) = true)
    (a6 : PySem.W.nsIn K mainGlobals "are_rising" = some (some (.ref f6)))
    (l6 : K.lookup f6 = some ⟨oc6, od6, .func (PySem.W.fnOf "are_rising" "are_rising" (defArgs (top 6)) (defBody (top 6)) (defScope (top 6)) .none kV6 dc6 pm6 an6 cd6 ct6), sl6⟩)
    (c6_ : PySem.W.codeIn K cd6 "are_rising" = true)
    (k6 : PySem.W.keepIn K (.ref f6) = true)
    (a10 : PySem.W.nsIn K mainGlobals "is_lesson" = some (some (.ref f10)))
    (l10 : K.lookup f10 = some ⟨oc10, od10, .func (PySem.W.fnOf "is_lesson" "is_lesson" (defArgs (top 10)) (defBody (top 10)) (defScope (top 10)) .none kV10 dc10 pm10 an10 cd10 ct10), sl10⟩)
    (c10_ : PySem.W.codeIn K cd10 "is_lesson" = true)
    (k10 : PySem.W.keepIn K (.ref f10) = true)
    (a11 : PySem.W.nsIn K mainGlobals "is_party" = some (some (.ref f11)))
    (l11 : K.lookup f11 = some ⟨oc11, od11, .func (PySem.W.fnOf "is_party" "is_party" (defArgs (top 11)) (defBody (top 11)) (defScope (top 11)) .none kV11 dc11 pm11 an11 cd11 ct11), sl11⟩)
    (c11_ : PySem.W.codeIn K cd11 "is_party" = true)
    (k11 : PySem.W.keepIn K (.ref f11) = true)
    (a12 : PySem.W.nsIn K mainGlobals "is_deed" = some (some (.ref f12)))
    (l12 : K.lookup f12 = some ⟨oc12, od12, .func (PySem.W.fnOf "is_deed" "is_deed" (defArgs (top 12)) (defBody (top 12)) (defScope (top 12)) .none kV12 dc12 pm12 an12 cd12 ct12), sl12⟩)
    (c12_ : PySem.W.codeIn K cd12 "is_deed" = true)
    (k12 : PySem.W.keepIn K (.ref f12) = true)
    (a13 : PySem.W.nsIn K mainGlobals "is_book" = some (some (.ref f13)))
    (l13 : K.lookup f13 = some ⟨oc13, od13, .func (PySem.W.fnOf "is_book" "is_book" (defArgs (top 13)) (defBody (top 13)) (defScope (top 13)) .none kV13 dc13 pm13 an13 cd13 ct13), sl13⟩)
    (c13_ : PySem.W.codeIn K cd13 "is_book" = true)
    (k13 : PySem.W.keepIn K (.ref f13) = true)
    (a15 : PySem.W.nsIn K mainGlobals "_law_box" = some (some (.ref f15)))
    (l15 : K.lookup f15 = some ⟨oc15, od15, .func (PySem.W.fnOf "_law_box" "_law_box" (defArgs (top 15)) (defBody (top 15)) (defScope (top 15)) .none kV15 dc15 pm15 an15 cd15 ct15), sl15⟩)
    (c15_ : PySem.W.codeIn K cd15 "_law_box" = true)
    (k15 : PySem.W.keepIn K (.ref f15) = true)
    (a16 : PySem.W.nsIn K mainGlobals "_law_take" = some (some (.ref f16)))
    (l16 : K.lookup f16 = some ⟨oc16, od16, .func (PySem.W.fnOf "_law_take" "_law_take" (defArgs (top 16)) (defBody (top 16)) (defScope (top 16)) .none kV16 dc16 pm16 an16 cd16 ct16), sl16⟩)
    (c16_ : PySem.W.codeIn K cd16 "_law_take" = true)
    (k16 : PySem.W.keepIn K (.ref f16) = true)
    (a17 : PySem.W.nsIn K mainGlobals "_law_is_from_to" = some (some (.ref f17)))
    (l17 : K.lookup f17 = some ⟨oc17, od17, .func (PySem.W.fnOf "_law_is_from_to" "_law_is_from_to" (defArgs (top 17)) (defBody (top 17)) (defScope (top 17)) .none kV17 dc17 pm17 an17 cd17 ct17), sl17⟩)
    (c17_ : PySem.W.codeIn K cd17 "_law_is_from_to" = true)
    (k17 : PySem.W.keepIn K (.ref f17) = true)
    (a18 : PySem.W.nsIn K mainGlobals "_law_spoil" = some (some (.ref f18)))
    (l18 : K.lookup f18 = some ⟨oc18, od18, .func (PySem.W.fnOf "_law_spoil" "_law_spoil" (defArgs (top 18)) (defBody (top 18)) (defScope (top 18)) .none kV18 dc18 pm18 an18 cd18 ct18), sl18⟩)
    (c18_ : PySem.W.codeIn K cd18 "_law_spoil" = true)
    (k18 : PySem.W.keepIn K (.ref f18) = true)
    (a19 : PySem.W.nsIn K mainGlobals "_law_odd" = some (some (.ref f19)))
    (l19 : K.lookup f19 = some ⟨oc19, od19, .func (PySem.W.fnOf "_law_odd" "_law_odd" (defArgs (top 19)) (defBody (top 19)) (defScope (top 19)) .none kV19 dc19 pm19 an19 cd19 ct19), sl19⟩)
    (c19_ : PySem.W.codeIn K cd19 "_law_odd" = true)
    (k19 : PySem.W.keepIn K (.ref f19) = true)
    (a20 : PySem.W.nsIn K mainGlobals "_law_rising" = some (some (.ref f20)))
    (l20 : K.lookup f20 = some ⟨oc20, od20, .func (PySem.W.fnOf "_law_rising" "_law_rising" (defArgs (top 20)) (defBody (top 20)) (defScope (top 20)) .none kV20 dc20 pm20 an20 cd20 ct20), sl20⟩)
    (c20_ : PySem.W.codeIn K cd20 "_law_rising" = true)
    (k20 : PySem.W.keepIn K (.ref f20) = true)
    (a21 : PySem.W.nsIn K mainGlobals "_law_lesson" = some (some (.ref f21)))
    (l21 : K.lookup f21 = some ⟨oc21, od21, .func (PySem.W.fnOf "_law_lesson" "_law_lesson" (defArgs (top 21)) (defBody (top 21)) (defScope (top 21)) .none kV21 dc21 pm21 an21 cd21 ct21), sl21⟩)
    (c21_ : PySem.W.codeIn K cd21 "_law_lesson" = true)
    (k21 : PySem.W.keepIn K (.ref f21) = true)
    (a22 : PySem.W.nsIn K mainGlobals "_law_party" = some (some (.ref f22)))
    (l22 : K.lookup f22 = some ⟨oc22, od22, .func (PySem.W.fnOf "_law_party" "_law_party" (defArgs (top 22)) (defBody (top 22)) (defScope (top 22)) .none kV22 dc22 pm22 an22 cd22 ct22), sl22⟩)
    (c22_ : PySem.W.codeIn K cd22 "_law_party" = true)
    (k22 : PySem.W.keepIn K (.ref f22) = true)
    (a23 : PySem.W.nsIn K mainGlobals "_law_hour" = some (some (.ref f23)))
    (l23 : K.lookup f23 = some ⟨oc23, od23, .func (PySem.W.fnOf "_law_hour" "_law_hour" (defArgs (top 23)) (defBody (top 23)) (defScope (top 23)) .none kV23 dc23 pm23 an23 cd23 ct23), sl23⟩)
    (c23_ : PySem.W.codeIn K cd23 "_law_hour" = true)
    (k23 : PySem.W.keepIn K (.ref f23) = true)
    (a24 : PySem.W.nsIn K mainGlobals "_law_deed" = some (some (.ref f24)))
    (l24 : K.lookup f24 = some ⟨oc24, od24, .func (PySem.W.fnOf "_law_deed" "_law_deed" (defArgs (top 24)) (defBody (top 24)) (defScope (top 24)) .none kV24 dc24 pm24 an24 cd24 ct24), sl24⟩)
    (c24_ : PySem.W.codeIn K cd24 "_law_deed" = true)
    (k24 : PySem.W.keepIn K (.ref f24) = true)
    (a25 : PySem.W.nsIn K mainGlobals "_law_is_lesson" = some (some (.ref f25)))
    (l25 : K.lookup f25 = some ⟨oc25, od25, .func (PySem.W.fnOf "_law_is_lesson" "_law_is_lesson" (defArgs (top 25)) (defBody (top 25)) (defScope (top 25)) .none kV25 dc25 pm25 an25 cd25 ct25), sl25⟩)
    (c25_ : PySem.W.codeIn K cd25 "_law_is_lesson" = true)
    (k25 : PySem.W.keepIn K (.ref f25) = true)
    (a26 : PySem.W.nsIn K mainGlobals "_law_is_party" = some (some (.ref f26)))
    (l26 : K.lookup f26 = some ⟨oc26, od26, .func (PySem.W.fnOf "_law_is_party" "_law_is_party" (defArgs (top 26)) (defBody (top 26)) (defScope (top 26)) .none kV26 dc26 pm26 an26 cd26 ct26), sl26⟩)
    (c26_ : PySem.W.codeIn K cd26 "_law_is_party" = true)
    (k26 : PySem.W.keepIn K (.ref f26) = true)
    (a27 : PySem.W.nsIn K mainGlobals "_law_is_deed" = some (some (.ref f27)))
    (l27 : K.lookup f27 = some ⟨oc27, od27, .func (PySem.W.fnOf "_law_is_deed" "_law_is_deed" (defArgs (top 27)) (defBody (top 27)) (defScope (top 27)) .none kV27 dc27 pm27 an27 cd27 ct27), sl27⟩)
    (c27_ : PySem.W.codeIn K cd27 "_law_is_deed" = true)
    (k27 : PySem.W.keepIn K (.ref f27) = true)
    (a28 : PySem.W.nsIn K mainGlobals "_law_is_book" = some (some (.ref f28)))
    (l28 : K.lookup f28 = some ⟨oc28, od28, .func (PySem.W.fnOf "_law_is_book" "_law_is_book" (defArgs (top 28)) (defBody (top 28)) (defScope (top 28)) .none kV28 dc28 pm28 an28 cd28 ct28), sl28⟩)
    (c28_ : PySem.W.codeIn K cd28 "_law_is_book" = true)
    (k28 : PySem.W.keepIn K (.ref f28) = true)
    (aLaw : PySem.W.nsIn K mainGlobals "law" = some (some (.ref fLaw)))
    (lLaw : K.lookup fLaw = some ⟨ocLaw, odLaw, .func (PySem.W.fnOf "law" "law" (defArgs (top 29)) (defBody (top 29)) (defScope (top 29)) .none kVLaw dcLaw pmLaw anLaw cdLaw ctLaw), slLaw⟩)
    (cLaw_ : PySem.W.codeIn K cdLaw "law" = true)
    (n0 : PySem.W.nsIn K mainGlobals "MOST_DEEDS" = some (some (.int 24 t0)))
    (n1 : PySem.W.nsIn K mainGlobals "MOST_FRIENDS" = some (some (.int 3 t1)))
    (z_len : PySem.W.nsIn K mainGlobals "len" = some none)
    (z_abs : PySem.W.nsIn K mainGlobals "abs" = some none)
    (z_divmod : PySem.W.nsIn K mainGlobals "divmod" = some none)
    (z_max : PySem.W.nsIn K mainGlobals "max" = some none)
    (z_min : PySem.W.nsIn K mainGlobals "min" = some none)
    (z_sum : PySem.W.nsIn K mainGlobals "sum" = some none)
    (z_sorted : PySem.W.nsIn K mainGlobals "sorted" = some none)
    (z_all : PySem.W.nsIn K mainGlobals "all" = some none)
    (z_any : PySem.W.nsIn K mainGlobals "any" = some none)
    (z_tuple : PySem.W.nsIn K mainGlobals "tuple" = some none)
    (z_list : PySem.W.nsIn K mainGlobals "list" = some none)
    (z_isinstance : PySem.W.nsIn K mainGlobals "isinstance" = some none)
    (z_range : PySem.W.nsIn K mainGlobals "range" = some none)
    (z_enumerate : PySem.W.nsIn K mainGlobals "enumerate" = some none)
    (z_zip : PySem.W.nsIn K mainGlobals "zip" = some none)
    (z_set : PySem.W.nsIn K mainGlobals "set" = some none)
    (z_int : PySem.W.nsIn K mainGlobals "int" = some none)
    (z_bool : PySem.W.nsIn K mainGlobals "bool" = some none)
    (z_str : PySem.W.nsIn K mainGlobals "str" = some none)
    (z_repr : PySem.W.nsIn K mainGlobals "repr" = some none)
    : All K mg fa := by
  have e := hfa.symm.trans (PySem.W.mg_of X G aLaw)
  cases e
  have TT : Top K mg := ⟨⟨_, PySem.W.mg_of X G a1, ⟨⟨_, _, _, _, _, _, _, _, _, l1, c1_, k1⟩⟩⟩, ⟨_, PySem.W.mg_of X G a2, ⟨⟨_, _, _, _, _, _, _, _, _, l2, c2_, k2⟩⟩⟩, ⟨_, PySem.W.mg_of X G a3, ⟨⟨_, _, _, _, _, _, _, _, _, l3, c3_, k3⟩⟩⟩, ⟨_, PySem.W.mg_of X G a4, ⟨⟨_, _, _, _, _, _, _, _, _, l4, c4_, k4⟩⟩⟩, ⟨_, PySem.W.mg_of X G a5, ⟨⟨_, _, _, _, _, _, _, _, _, l5, c5_, k5⟩⟩⟩, ⟨_, PySem.W.mg_of X G a6, ⟨⟨_, _, _, _, _, _, _, _, _, l6, c6_, k6⟩⟩⟩, ⟨_, PySem.W.mg_of X G a10, ⟨⟨_, _, _, _, _, _, _, _, _, l10, c10_, k10⟩⟩⟩, ⟨_, PySem.W.mg_of X G a11, ⟨⟨_, _, _, _, _, _, _, _, _, l11, c11_, k11⟩⟩⟩, ⟨_, PySem.W.mg_of X G a12, ⟨⟨_, _, _, _, _, _, _, _, _, l12, c12_, k12⟩⟩⟩, ⟨_, PySem.W.mg_of X G a13, ⟨⟨_, _, _, _, _, _, _, _, _, l13, c13_, k13⟩⟩⟩, ⟨_, PySem.W.mg_of X G a15, ⟨⟨_, _, _, _, _, _, _, _, _, l15, c15_, k15⟩⟩⟩, ⟨_, PySem.W.mg_of X G a16, ⟨⟨_, _, _, _, _, _, _, _, _, l16, c16_, k16⟩⟩⟩, ⟨_, PySem.W.mg_of X G a17, ⟨⟨_, _, _, _, _, _, _, _, _, l17, c17_, k17⟩⟩⟩, ⟨_, PySem.W.mg_of X G a18, ⟨⟨_, _, _, _, _, _, _, _, _, l18, c18_, k18⟩⟩⟩, ⟨_, PySem.W.mg_of X G a19, ⟨⟨_, _, _, _, _, _, _, _, _, l19, c19_, k19⟩⟩⟩, ⟨_, PySem.W.mg_of X G a20, ⟨⟨_, _, _, _, _, _, _, _, _, l20, c20_, k20⟩⟩⟩, ⟨_, PySem.W.mg_of X G a21, ⟨⟨_, _, _, _, _, _, _, _, _, l21, c21_, k21⟩⟩⟩, ⟨_, PySem.W.mg_of X G a22, ⟨⟨_, _, _, _, _, _, _, _, _, l22, c22_, k22⟩⟩⟩, ⟨_, PySem.W.mg_of X G a23, ⟨⟨_, _, _, _, _, _, _, _, _, l23, c23_, k23⟩⟩⟩, ⟨_, PySem.W.mg_of X G a24, ⟨⟨_, _, _, _, _, _, _, _, _, l24, c24_, k24⟩⟩⟩, ⟨_, PySem.W.mg_of X G a25, ⟨⟨_, _, _, _, _, _, _, _, _, l25, c25_, k25⟩⟩⟩, ⟨_, PySem.W.mg_of X G a26, ⟨⟨_, _, _, _, _, _, _, _, _, l26, c26_, k26⟩⟩⟩, ⟨_, PySem.W.mg_of X G a27, ⟨⟨_, _, _, _, _, _, _, _, _, l27, c27_, k27⟩⟩⟩, ⟨_, PySem.W.mg_of X G a28, ⟨⟨_, _, _, _, _, _, _, _, _, l28, c28_, k28⟩⟩⟩⟩
  have z : ∀ x ∈ blts, mg x = none := fun x hx => by
    simp only [blts, List.mem_cons, List.not_mem_nil, or_false] at hx
    rcases hx with rfl | rfl | rfl | rfl | rfl | rfl | rfl | rfl | rfl | rfl | rfl | rfl | rfl | rfl | rfl | rfl | rfl | rfl | rfl | rfl
    · exact PySem.W.mg_none_of X G z_len
    · exact PySem.W.mg_none_of X G z_abs
    · exact PySem.W.mg_none_of X G z_divmod
    · exact PySem.W.mg_none_of X G z_max
    · exact PySem.W.mg_none_of X G z_min
    · exact PySem.W.mg_none_of X G z_sum
    · exact PySem.W.mg_none_of X G z_sorted
    · exact PySem.W.mg_none_of X G z_all
    · exact PySem.W.mg_none_of X G z_any
    · exact PySem.W.mg_none_of X G z_tuple
    · exact PySem.W.mg_none_of X G z_list
    · exact PySem.W.mg_none_of X G z_isinstance
    · exact PySem.W.mg_none_of X G z_range
    · exact PySem.W.mg_none_of X G z_enumerate
    · exact PySem.W.mg_none_of X G z_zip
    · exact PySem.W.mg_none_of X G z_set
    · exact PySem.W.mg_none_of X G z_int
    · exact PySem.W.mg_none_of X G z_bool
    · exact PySem.W.mg_none_of X G z_str
    · exact PySem.W.mg_none_of X G z_repr
  exact ⟨TT, ⟨_, PySem.W.mg_of X G n0⟩, ⟨_, PySem.W.mg_of X G n1⟩, z, ⟨_, _, _, _, _, _, _, _, _, lLaw, cLaw_⟩⟩
end K11

open PySem PySem.W PyProof.Rows
set_option Elab.async false
set_option linter.all false
set_option maxRecDepth 100000
set_option maxHeartbeats 0 in
theorem PySem.Challenge.cw_tenturns_k11_lessons_parties_deeds_books_holds : PySem.Challenge.rw_tenturns_k11_lessons_parties_deeds_books.Holds := by
  w_on; o_law; k_head; (case hw => w_witness2)
  k_fill
  refine Dv.walk_law (l := PySem.Challenge.rw_tenturns_k11_lessons_parties_deeds_books) (n := 63) rfl (by decide) rfl (by decide +kernel) (fun w h Y => PySem.W.kIn_of Y) ?F
  case F =>
    intro w mg fa h Y KX G hmg own
    refine' ⟨_, K11.law_at KX (K11.all_mk KX G hmg ?a1 ?l1 ?c1_ ?k1 ?a2 ?l2 ?c2_ ?k2 ?a3 ?l3 ?c3_ ?k3 ?a4 ?l4 ?c4_ ?k4 ?a5 ?l5 ?c5_ ?k5 ?a6 ?l6 ?c6_ ?k6 ?a10 ?l10 ?c10_ ?k10 ?a11 ?l11 ?c11_ ?k11 ?a12 ?l12 ?c12_ ?k12 ?a13 ?l13 ?c13_ ?k13 ?a15 ?l15 ?c15_ ?k15 ?a16 ?l16 ?c16_ ?k16 ?a17 ?l17 ?c17_ ?k17 ?a18 ?l18 ?c18_ ?k18 ?a19 ?l19 ?c19_ ?k19 ?a20 ?l20 ?c20_ ?k20 ?a21 ?l21 ?c21_ ?k21 ?a22 ?l22 ?c22_ ?k22 ?a23 ?l23 ?c23_ ?k23 ?a24 ?l24 ?c24_ ?k24 ?a25 ?l25 ?c25_ ?k25 ?a26 ?l26 ?c26_ ?k26 ?a27 ?l27 ?c27_ ?k27 ?a28 ?l28 ?c28_ ?k28 ?aLaw ?lLaw ?cLaw_ ?n0 ?n1 ?z_len ?z_abs ?z_divmod ?z_max ?z_min ?z_sum ?z_sorted ?z_all ?z_any ?z_tuple ?z_list ?z_isinstance ?z_range ?z_enumerate ?z_zip ?z_set ?z_int ?z_bool ?z_str ?z_repr)⟩
    (case a1 => k_is); (case l1 => k_is); (case c1_ => k_is); (case k1 => k_is); (case a2 => k_is); (case l2 => k_is); (case c2_ => k_is); (case k2 => k_is); (case a3 => k_is); (case l3 => k_is); (case c3_ => k_is); (case k3 => k_is); (case a4 => k_is); (case l4 => k_is); (case c4_ => k_is); (case k4 => k_is); (case a5 => k_is); (case l5 => k_is); (case c5_ => k_is); (case k5 => k_is); (case a6 => k_is); (case l6 => k_is); (case c6_ => k_is); (case k6 => k_is); (case a10 => k_is); (case l10 => k_is); (case c10_ => k_is); (case k10 => k_is); (case a11 => k_is); (case l11 => k_is); (case c11_ => k_is); (case k11 => k_is); (case a12 => k_is); (case l12 => k_is); (case c12_ => k_is); (case k12 => k_is); (case a13 => k_is); (case l13 => k_is); (case c13_ => k_is); (case k13 => k_is); (case a15 => k_is); (case l15 => k_is); (case c15_ => k_is); (case k15 => k_is); (case a16 => k_is); (case l16 => k_is); (case c16_ => k_is); (case k16 => k_is); (case a17 => k_is); (case l17 => k_is); (case c17_ => k_is); (case k17 => k_is); (case a18 => k_is); (case l18 => k_is); (case c18_ => k_is); (case k18 => k_is); (case a19 => k_is); (case l19 => k_is); (case c19_ => k_is); (case k19 => k_is); (case a20 => k_is); (case l20 => k_is); (case c20_ => k_is); (case k20 => k_is); (case a21 => k_is); (case l21 => k_is); (case c21_ => k_is); (case k21 => k_is); (case a22 => k_is); (case l22 => k_is); (case c22_ => k_is); (case k22 => k_is); (case a23 => k_is); (case l23 => k_is); (case c23_ => k_is); (case k23 => k_is); (case a24 => k_is); (case l24 => k_is); (case c24_ => k_is); (case k24 => k_is); (case a25 => k_is); (case l25 => k_is); (case c25_ => k_is); (case k25 => k_is); (case a26 => k_is); (case l26 => k_is); (case c26_ => k_is); (case k26 => k_is); (case a27 => k_is); (case l27 => k_is); (case c27_ => k_is); (case k27 => k_is); (case a28 => k_is); (case l28 => k_is); (case c28_ => k_is); (case k28 => k_is); (case aLaw => k_is); (case lLaw => k_is); (case cLaw_ => k_is); (case n0 => k_is); (case n1 => k_is); (case z_len => k_is); (case z_abs => k_is); (case z_divmod => k_is); (case z_max => k_is); (case z_min => k_is); (case z_sum => k_is); (case z_sorted => k_is); (case z_all => k_is); (case z_any => k_is); (case z_tuple => k_is); (case z_list => k_is); (case z_isinstance => k_is); (case z_range => k_is); (case z_enumerate => k_is); (case z_zip => k_is); (case z_set => k_is); (case z_int => k_is); (case z_bool => k_is); (case z_str => k_is); (case z_repr => k_is)
