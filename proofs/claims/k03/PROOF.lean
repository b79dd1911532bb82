import PyProof.Rows.All
import Wide.All
import OpenK.AllK
import Wide.FinOn
import HandS.ForMost
import HandS.Wide
import HandS.WideBits
import HandS.IsInst
import HandS.Evl
import HandS.Conv
import HandS.FStr
import PyProof.FString3
import PyProof.Rows.StrIntSpec
import HandS.More
import KE.KDictDisplayH
import HandS.Zip
import HandS.SortKw
import HandS.SortInts
import HandS.Deep
import HandS.TupSets
import HandS.ForExc
import HandS.ExcIs
import HandS.Flow
import HandS.TryOnly
import HandS.ExcOwn
import HandS.WordsExc
import HandS.Ends
import PySem.Challenge.RW_bastion_k03_combinations
set_option Elab.async false
set_option linter.all false
set_option maxRecDepth 100000
set_option maxHeartbeats 2000000
namespace Eng
open PySem PySem.Spec PyProof.Rows L2
open Evl (Ex)

/-! ### canonical readings: what a piece of syntax is asked, by its own run -/
def wE (X : Cx) (e : Expr) : TE := fun σ H Q => ∀ pins s, Inv X pins σ H s → wpAny (model X.prog X.w) X.A (eval e X.env) (EP X pins σ Q) X.xe s
def wT (X : Cx) (e : Expr) : TT := fun σ H Q => ∀ pins s, Inv X pins σ H s → wpAny (model X.prog X.w) X.A (isTrue e X.env (eval e X.env)) (TP X pins σ Q) X.xe s
def wA (X : Cx) (es : List Expr) : TA := fun σ H Q => ∀ pos pins s, Inv X pins σ H s → wpAny (model X.prog X.w) X.A (spliced (backTo pos (starEach es X.env))) (AP X pins σ Q) X.xe s
def wS (X : Cx) (st : Stmt) : TS := fun D σ H => ∀ pins s, Inv X pins σ H s → wpAny (model X.prog X.w) X.A (exec st X.env) (SP X pins D) X.xe s
def wB (X : Cx) (sts : List Stmt) : TS := fun D σ H => ∀ pins s, Inv X pins σ H s → wpAny (model X.prog X.w) X.A (execs sts X.env) (SP X pins D) X.xe s
section
variable {X : Cx} {e : Expr} {es : List Expr} {st : Stmt} {sts : List Stmt} {σ : L2.St} {H : Hp} {t : TE} {tt : TT} {ta : TA} {ts : TS}
theorem pe_w : PE X e (wE X e) := ⟨fun pins s _ _ _ I h => h pins s I⟩
theorem pt_w : PT X e (wT X e) := ⟨fun pins s _ _ _ I h => h pins s I⟩
theorem pa_w : PA X es (wA X es) := ⟨fun pos pins s _ _ _ I h => h pos pins s I⟩
theorem ps_w : PS X st (wS X st) := ⟨fun pins s _ _ _ I h => h pins s I⟩
theorem pss_w : PSs X sts (wB X sts) := ⟨fun pins s _ _ _ I h => h pins s I⟩
theorem wE_of {Q : VK} (h : PE X e t) (q : t σ H Q) : wE X e σ H Q := fun pins s I => h.run pins s σ H Q I q
theorem wT_of {Q : Bool → Hp → Prop} (h : PT X e tt) (q : tt σ H Q) : wT X e σ H Q := fun pins s I => h.run pins s σ H Q I q
theorem wA_of {Q : List V → Hp → Prop} (h : PA X es ta) (q : ta σ H Q) : wA X es σ H Q := fun pos pins s I => h.run pos pins s σ H Q I q
theorem wS_of {D : Ends} (h : PS X st ts) (q : ts D σ H) : wS X st D σ H := fun pins s I => h.run pins s σ H D I q
theorem wB_of {D : Ends} (h : PSs X sts ts) (q : ts D σ H) : wB X sts D σ H := fun pins s I => h.run pins s σ H D I q
theorem wE_mono {Q Q' : VK} (h : wE X e σ H Q) (k : ∀ v H', Q v H' → Q' v H') : wE X e σ H Q' := fun pins s I =>
  thn (h pins s I) fun u s' ⟨v, H', I', r, q⟩ => ⟨v, H', I', r, k v H' q⟩
theorem wT_mono {Q Q' : Bool → Hp → Prop} (h : wT X e σ H Q) (k : ∀ v H', Q v H' → Q' v H') : wT X e σ H Q' := fun pins s I =>
  thn (h pins s I) fun u s' ⟨H', I', q⟩ => ⟨H', I', k _ H' q⟩
theorem wA_mono {Q Q' : List V → Hp → Prop} (h : wA X es σ H Q) (k : ∀ v H', Q v H' → Q' v H') : wA X es σ H Q' := fun pos pins s I =>
  thn (h pos pins s I) fun u s' ⟨v, H', I', r, q⟩ => ⟨v, H', I', r, k v H' q⟩
end

/-! ### data and heaps -/
section
variable {K : PySem.W.Frag} {G G' H H' : Hp}
mutual
theorem dp_up (e : Ex G G') : ∀ {v : V} (d : PyData), Dp K G v d → Dp K G' v d
  | _, .none, h => by cases h; exact .non
  | _, .bool b, h => by cases h; exact .bl b
  | _, .int i, h => by cases h; exact .int i
  | _, .str x, h => by cases h; exact .str x
  | _, .list ds, h => by cases h with | lst hs ha => exact .lst (Evl.ex_l e hs) (dp_upAll e ds ha)
  | _, .tuple ds, h => by cases h with | tup hs ha => exact .tup (Evl.ex_t e hs) (dp_upAll e ds ha)
  | _, .dict _, h => by cases h
theorem dp_upAll (e : Ex G G') : ∀ {vs : List V} (ds : List PyData), DpAll K G vs ds → DpAll K G' vs ds
  | _, [], h => by cases h; exact .nil
  | _, d :: ds, h => by cases h with | cons h1 h2 => exact .cons (dp_up e d h1) (dp_upAll e ds h2)
end
theorem dall_len : ∀ {vs : List V} {ds : List PyData}, DpAll K G vs ds → vs.length = ds.length
  | _, _, .nil => rfl
  | _, _, .cons _ h => congrArg (· + 1) (dall_len h)
theorem dall_get : ∀ {vs : List V} {ds : List PyData} {i : Nat} {d : PyData}, DpAll K G vs ds → ds[i]? = some d → ∃ v, vs[i]? = some v ∧ Dp K G v d
  | _, _, _, _, .nil, e => by simp at e
  | _, _, 0, _, .cons r _, e => by simp at e; subst e; exact ⟨_, rfl, r⟩
  | _, _, i + 1, d, .cons _ t, e => by
    obtain ⟨v, h1, h2⟩ := dall_get (i := i) (d := d) t (by simpa using e)
    exact ⟨v, by simpa using h1, h2⟩
theorem dall_getV : ∀ {vs : List V} {ds : List PyData} {i : Nat} {v : V}, DpAll K G vs ds → vs[i]? = some v → ∃ d, ds[i]? = some d ∧ Dp K G v d
  | _, _, _, _, .nil, e => by simp at e
  | _, _, 0, _, .cons r _, e => by simp at e; subst e; exact ⟨_, rfl, r⟩
  | _, _, i + 1, v, .cons _ t, e => by
    obtain ⟨d, h1, h2⟩ := dall_getV (i := i) (v := v) t (by simpa using e)
    exact ⟨d, by simpa using h1, h2⟩
theorem dall_app : ∀ {vs ws : List V} {ds es : List PyData}, DpAll K G vs ds → DpAll K G ws es → DpAll K G (vs ++ ws) (ds ++ es)
  | _, _, _, _, .nil, h => h
  | _, _, _, _, .cons r t, h => .cons r (dall_app t h)
theorem dall_set {v : V} {d : PyData} (r : Dp K G v d) : ∀ {vs : List V} {ds : List PyData} (i : Nat), DpAll K G vs ds → DpAll K G (vs.set i v) (ds.set i d)
  | _, _, _, .nil => .nil
  | _, _, 0, .cons _ t => .cons r t
  | _, _, i + 1, .cons q t => .cons q (dall_set r i t)
theorem dall_ints : ∀ {ns : List Int}, DpAll K G (ns.map V.int) (ns.map PyData.int)
  | [] => .nil
  | _ :: _ => .cons (.int _) dall_ints
theorem dall_ints_inv : ∀ {vs : List V} {ns : List Int}, DpAll K G vs (ns.map PyData.int) → vs = ns.map V.int
  | _, [], h => by cases h; rfl
  | _, n :: ns, h => by
    cases h with
    | cons h1 h2 =>
      cases h1
      rw [dall_ints_inv h2]
      rfl
theorem dp_int {v : V} {i : Int} (h : Dp K G v (.int i)) : v = .int i := by cases h; rfl
theorem dp_str {v : V} {i : Str} (h : Dp K G v (.str i)) : v = .str i := by cases h; rfl
theorem dp_bl {v : V} {i : Bool} (h : Dp K G v (.bool i)) : v = .bl i := by cases h; rfl
theorem dp_non {v : V} (h : Dp K G v .none) : v = .non := by cases h; rfl
theorem dp_list {v : V} {ds : List PyData} (h : Dp K G v (.list ds)) : ∃ a xs, v = .ref a ∧ SqL K G a xs ∧ DpAll K G xs ds := by cases h with | lst a b => exact ⟨_, _, rfl, a, b⟩
theorem dp_tup {v : V} {ds : List PyData} (h : Dp K G v (.tuple ds)) : ∃ a xs, v = .ref a ∧ SqT K G a xs ∧ DpAll K G xs ds := by cases h with | tup a b => exact ⟨_, _, rfl, a, b⟩
end

/-- the pool of a law: a list of the script and four ints, changed by its reader -/
def PoolOk (K : PySem.W.Frag) (G H : Hp) (a : Addr) : Prop :=
  ∃ (l : Addr) (ns : List Int) (i c d s : Int), H a = some (.lst [.ref l, .int i, .int c, .int d, .int s]) ∧ SqL K G l (ns.map V.int) ∧ 0 ≤ i ∧ ns.length ≤ 63

/-- a stretch of the run: G, G' what is known to stand still, H, H' the heap -/
structure Stp (K : PySem.W.Frag) (pa : Option Addr) (G H G' H' : Hp) : Prop where
  ex : Ex G G'
  fr : ∀ b, H b ≠ none → G b = none → G' b = none
  keep : ∀ b o, pa ≠ some b → H b = some o → H' b = some o
  sub : Ex G' H'
  pool : ∀ a, pa = some a → H a ≠ none ∧ G' a = none ∧ PoolOk K G' H' a
section
variable {K : PySem.W.Frag} {pa : Option Addr} {G H G1 H1 G2 H2 : Hp}
theorem PoolOk.up {a : Addr} {G G' : Hp} (e : Ex G G') (h : PoolOk K G H a) : PoolOk K G' H a := by
  obtain ⟨l, ns, i, c, d, s, h1, h2, h3⟩ := h
  exact ⟨l, ns, i, c, d, s, h1, Evl.ex_l e h2, h3⟩
theorem PoolOk.ne {a : Addr} (h : PoolOk K G H a) : H a ≠ none := by
  obtain ⟨l, ns, i, c, d, s, h1, h2, h3⟩ := h
  rw [h1]
  exact fun z => nomatch z
theorem Stp.live (a : Stp K pa G H G1 H1) (b : Addr) (h : H b ≠ none) : H1 b ≠ none := by
  by_cases hp : pa = some b
  · exact (a.pool b hp).2.2.ne
  · cases q : H b with
    | none => exact absurd q h
    | some o => rw [a.keep b o hp q]; exact fun z => nomatch z
theorem Stp.trans (a : Stp K pa G H G1 H1) (b : Stp K pa G1 H1 G2 H2) : Stp K pa G H G2 H2 where
  ex := a.ex.trans b.ex
  fr := fun c h g => b.fr c (a.live c h) (a.fr c h g)
  keep := fun c o h q => b.keep c o h (a.keep c o h q)
  sub := b.sub
  pool := fun c h => ⟨(a.pool c h).1, (b.pool c h).2⟩
/-- nothing happens -/
theorem Stp.refl (a : Stp K pa G H G1 H1) : Stp K pa G1 H1 G1 H1 :=
  ⟨Ex.refl _, fun _ _ h => h, fun _ _ _ h => h, a.sub, fun c h => ⟨(a.pool c h).2.2.ne, (a.pool c h).2⟩⟩
/-- a new object that will not change -/
theorem Stp.new {p : Addr} {o : HO} (a : Stp K pa G H G1 H1) (h : H1 p = none) : Stp K pa G1 H1 (upd G1 p o) (upd H1 p o) := by
  have hg : G1 p = none := Evl.fresh_back a.sub h
  refine ⟨Ex.new hg, fun b hb g => ?_, fun b u _ q => ?_, fun b u q => ?_, fun c hc => ?_⟩
  · rw [upd_ne (fun z => hb (by rw [z]; exact h))]; exact g
  · rw [upd_ne (ne_of_none q h)]; exact q
  · by_cases z : b = p
    · subst z; rw [upd_same] at q ⊢; exact q
    · rw [upd_ne z] at q ⊢; exact a.sub b u q
  · obtain ⟨z1, z2, z3⟩ := a.pool c hc
    have ne := z3.ne
    have hcp : c ≠ p := fun z => ne (by rw [z]; exact h)
    refine ⟨ne, by rw [upd_ne hcp]; exact z2, ?_⟩
    obtain ⟨l, ns, i, cc, d, s, h1, h2, h3⟩ := z3
    exact ⟨l, ns, i, cc, d, s, by rw [upd_ne hcp]; exact h1, Evl.ex_l (Ex.new hg) h2, h3⟩
/-- a new object that may change -/
theorem Stp.lay {p : Addr} {o : HO} (a : Stp K pa G H G1 H1) (h : H1 p = none) : Stp K pa G1 H1 G1 (upd H1 p o) := by
  have hg : G1 p = none := Evl.fresh_back a.sub h
  refine ⟨Ex.refl _, fun _ _ g => g, fun b u _ q => ?_, Ex.mut a.sub hg, fun c hc => ?_⟩
  · rw [upd_ne (ne_of_none q h)]; exact q
  · obtain ⟨z1, z2, z3⟩ := a.pool c hc
    have ne := z3.ne
    have hcp : c ≠ p := fun z => ne (by rw [z]; exact h)
    refine ⟨ne, z2, ?_⟩
    obtain ⟨l, ns, i, cc, d, s, h1, h2, h3⟩ := z3
    exact ⟨l, ns, i, cc, d, s, by rw [upd_ne hcp]; exact h1, h2, h3⟩
/-- an object that is new since H, and not known to stand still, changes -/
theorem Stp.mut {p : Addr} {o : HO} (a : Stp K pa G H G1 H1) (h : H p = none) (hg : G1 p = none) : Stp K pa G H G1 (upd H1 p o) := by
  refine ⟨a.ex, a.fr, fun b u hb q => ?_, Ex.mut a.sub hg, fun c hc => ?_⟩
  · rw [upd_ne (ne_of_none q h)]; exact a.keep b u hb q
  · obtain ⟨z1, z2, z3⟩ := a.pool c hc
    have hcp : c ≠ p := fun z => z1 (by rw [z]; exact h)
    refine ⟨z1, z2, ?_⟩
    obtain ⟨l, ns, i, cc, d, s, h1, h2, h3⟩ := z3
    exact ⟨l, ns, i, cc, d, s, by rw [upd_ne hcp]; exact h1, h2, h3⟩
/-- such an object stands still from now on -/
theorem Stp.frz {p : Addr} {o : HO} (a : Stp K pa G H G1 H1) (h : H p = none) (hg : G1 p = none) (ho : H1 p = some o) : Stp K pa G H (upd G1 p o) H1 := by
  have e : Ex G1 (upd G1 p o) := Ex.new hg
  refine ⟨a.ex.trans e, fun b hb g => ?_, a.keep, fun b u q => ?_, fun c hc => ?_⟩
  · rw [upd_ne (fun z => hb (by rw [z]; exact h))]; exact a.fr b hb g
  · by_cases z : b = p
    · subst z; rw [upd_same] at q; rw [ho]; exact q
    · rw [upd_ne z] at q; exact a.sub b u q
  · obtain ⟨z1, z2, z3⟩ := a.pool c hc
    have hcp : c ≠ p := fun z => z1 (by rw [z]; exact h)
    exact ⟨z1, by rw [upd_ne hcp]; exact z2, z3.up e⟩
end

/-! ### the abstract state -/
inductive SV where
  | dat (d : PyData) | own (k : Nat) | pool | any
structure AS where
  ρ : List SV
  μ : List (Option (List PyData))
structure Ct where
  H0 : Hp
  B0 : Hp
  pa : Option Addr
  fx : List Addr := []
def SlotOk (K : PySem.W.Frag) (pa : Option Addr) (G : Hp) (ps : List Addr) (slot : Option (Option V)) : SV → Prop
  | .dat d => ∃ v, slot = some (some v) ∧ Dp K G v d
  | .own k => ∃ p, ps[k]? = some p ∧ slot = some (some (.ref p))
  | .pool => ∃ a, pa = some a ∧ slot = some (some (.ref a))
  | .any => True
structure St (K : PySem.W.Frag) (c : Ct) (A : AS) (G : Hp) (ps : List Addr) (σ : L2.St) (H : Hp) : Prop where
  st : Stp K c.pa c.B0 c.H0 G H
  len : σ.length = A.ρ.length
  sl : ∀ (i : Nat) (sv : SV), A.ρ[i]? = some sv → SlotOk K c.pa G ps σ[i]? sv
  mlen : ps.length = A.μ.length
  inj : ∀ (i j : Nat) (p : Addr), ps[i]? = some p → ps[j]? = some p → i = j
  pre : ∀ (i : Nat) (p : Addr), c.fx[i]? = some p → ps[i]? = some p
  new : ∀ p ∈ ps, c.H0 p = none ∧ H p ≠ none
  mu : ∀ (k : Nat) (p : Addr) (ds : List PyData), ps[k]? = some p → A.μ[k]? = some (some ds) → G p = none ∧ ∃ xs, H p = some (.lst xs) ∧ DpAll K G xs ds
/-- results -/
inductive RV where
  | D (d : PyData) | L (ds : List PyData)
abbrev RV.frz : RV → PyData
  | .D d => d
  | .L ds => .list ds
def ROk (K : PySem.W.Frag) (G H H' : Hp) (v : V) : RV → Prop
  | .D d => Dp K G v d
  | .L ds => ∃ p xs, v = .ref p ∧ H p = none ∧ G p = none ∧ H' p = some (.lst xs) ∧ DpAll K G xs ds
section
variable {K : PySem.W.Frag} {c : Ct} {A : AS} {G H G1 H1 G2 H2 : Hp} {ps : List Addr} {σ : L2.St}
theorem SlotOk.up {pa : Option Addr} {slot : Option (Option V)} {sv : SV} (e : Ex G G1) (h : SlotOk K pa G ps slot sv) : SlotOk K pa G1 ps slot sv := by
  cases sv with
  | dat d =>
    obtain ⟨v, h1, h2⟩ := h
    exact ⟨v, h1, dp_up e d h2⟩
  | own k => exact h
  | pool => exact h
  | any => exact h
theorem St.step (h : St K c A G ps σ H) (s : Stp K c.pa G H G1 H1) : St K c A G1 ps σ H1 where
  st := h.st.trans s
  len := h.len
  sl := fun i sv e => (h.sl i sv e).up s.ex
  mlen := h.mlen
  inj := h.inj
  pre := h.pre
  new := fun p hp => ⟨(h.new p hp).1, s.live p (h.new p hp).2⟩
  mu := fun k p ds hk hm => by
    obtain ⟨g, xs, hx, hd⟩ := h.mu k p ds hk hm
    have hp := (h.new p (List.mem_of_getElem? hk))
    have np : c.pa ≠ some p := fun z => (h.st.pool p z).1 hp.1
    exact ⟨s.fr p hp.2 g, xs, s.keep p _ np hx, dp_upAll s.ex ds hd⟩
theorem St.refl (h : St K c A G ps σ H) : Stp K c.pa G H G H := h.st.refl
/-- a slot gets data -/
theorem St.put {i : Nat} {v : V} {d : PyData} (h : St K c A G ps σ H) (r : Dp K G v d) : St K c ⟨A.ρ.set i (.dat d), A.μ⟩ G ps (σ.set i (some v)) H where
  st := h.st
  len := by rw [List.length_set, List.length_set]; exact h.len
  sl := fun j sv e => by
    by_cases z : i = j
    · subst z
      have e' : (A.ρ.set i (.dat d))[i]? = some sv := e
      rw [List.getElem?_set_self'] at e'
      have hl : i < A.ρ.length := by
        cases q : A.ρ[i]? with
        | none => rw [q] at e'; cases e'
        | some y => exact (List.getElem?_eq_some_iff.mp q).1
      rw [List.getElem?_eq_getElem hl] at e'
      have e2 : SV.dat d = sv := Option.some.inj e'
      subst e2
      exact ⟨v, by rw [List.getElem?_set_self (by rw [h.len]; exact hl)], r⟩
    · have e' : (A.ρ.set i (.dat d))[j]? = some sv := e
      rw [List.getElem?_set_ne z] at e'
      rw [List.getElem?_set_ne z]
      exact h.sl j sv e'
  mlen := h.mlen
  inj := h.inj
  pre := h.pre
  new := h.new
  mu := h.mu
/-- a slot gets a new list that will change -/
theorem St.putM {i : Nat} {p : Addr} {xs : List V} {ds : List PyData} (h : St K c A G ps σ H) (h0 : c.H0 p = none) (hn : p ∉ ps) (hg : G p = none) (hp : H p = some (.lst xs)) (r : DpAll K G xs ds) :
    St K c ⟨A.ρ.set i (.own A.μ.length), A.μ ++ [some ds]⟩ G (ps ++ [p]) (σ.set i (some (.ref p))) H where
  st := h.st
  len := by rw [List.length_set, List.length_set]; exact h.len
  sl := fun j sv e => by
    have up : ∀ {slot : Option (Option V)} {sv : SV}, SlotOk K c.pa G ps slot sv → SlotOk K c.pa G (ps ++ [p]) slot sv := fun {slot sv} q => by
      cases sv with
      | own k =>
        obtain ⟨p', h1, h2⟩ := q
        exact ⟨p', by rw [List.getElem?_append_left (List.getElem?_eq_some_iff.mp h1).1]; exact h1, h2⟩
      | dat d => exact q
      | pool => exact q
      | any => exact q
    by_cases z : i = j
    · subst z
      have e' : (A.ρ.set i (.own A.μ.length))[i]? = some sv := e
      rw [List.getElem?_set_self'] at e'
      have hl : i < A.ρ.length := by
        cases q : A.ρ[i]? with
        | none => rw [q] at e'; cases e'
        | some y => exact (List.getElem?_eq_some_iff.mp q).1
      rw [List.getElem?_eq_getElem hl] at e'
      have e2 : SV.own A.μ.length = sv := Option.some.inj e'
      subst e2
      exact ⟨p, by rw [← h.mlen]; simp, by rw [List.getElem?_set_self (by rw [h.len]; exact hl)]⟩
    · have e' : (A.ρ.set i (.own A.μ.length))[j]? = some sv := e
      rw [List.getElem?_set_ne z] at e'
      rw [List.getElem?_set_ne z]
      exact up (h.sl j sv e')
  mlen := by simp [h.mlen]
  inj := fun i j q hi hj => by
    have last : ∀ {i : Nat} {q : Addr}, (ps ++ [p])[i]? = some q → (ps[i]? = some q ∧ i < ps.length) ∨ (q = p ∧ i = ps.length) := fun {i q} hi => by
      by_cases l : i < ps.length
      · rw [List.getElem?_append_left l] at hi
        exact .inl ⟨hi, l⟩
      · rw [List.getElem?_append_right (by omega)] at hi
        have l2 : i - ps.length = 0 := by
          cases q2 : i - ps.length with
          | zero => rfl
          | succ n => rw [q2] at hi; simp at hi
        rw [l2] at hi
        exact .inr ⟨(Option.some.inj hi).symm, by omega⟩
    rcases last hi with ⟨a, a'⟩ | ⟨a, a'⟩ <;> rcases last hj with ⟨b, b'⟩ | ⟨b, b'⟩
    · exact h.inj i j q a b
    · subst b; exact absurd (List.mem_of_getElem? a) hn
    · subst a; exact absurd (List.mem_of_getElem? b) hn
    · omega
  pre := fun i q hq => by
    have z := h.pre i q hq
    rw [List.getElem?_append_left (List.getElem?_eq_some_iff.mp z).1]
    exact z
  new := fun q hq => by
    rcases List.mem_append.mp hq with z | z
    · exact h.new q z
    · have e : q = p := by simpa using z
      subst e
      exact ⟨h0, by rw [hp]; exact fun z => nomatch z⟩
  mu := fun k q es hk hm => by
    by_cases l : k < ps.length
    · rw [List.getElem?_append_left l] at hk
      have hm' : (A.μ ++ [some ds])[k]? = some (some es) := hm
      rw [List.getElem?_append_left (by rw [← h.mlen]; exact l)] at hm'
      exact h.mu k q es hk hm'
    · rw [List.getElem?_append_right (by omega)] at hk
      have hm' : (A.μ ++ [some ds])[k]? = some (some es) := hm
      rw [List.getElem?_append_right (by rw [← h.mlen]; omega)] at hm'
      have l2 : k - ps.length = 0 := by
        cases q2 : k - ps.length with
        | zero => rfl
        | succ n => rw [q2] at hk; simp at hk
      rw [← h.mlen, l2] at hm'
      rw [l2] at hk
      have e1 : p = q := Option.some.inj hk
      have e2 : ds = es := Option.some.inj (Option.some.inj hm')
      subst e1; subst e2
      exact ⟨hg, xs, hp, r⟩
/-- a list of one's own changes -/
theorem St.chg {k : Nat} {p : Addr} {ys : List V} {es : List PyData} {ds : List PyData} (h : St K c A G ps σ H) (hk : ps[k]? = some p) (hm : A.μ[k]? = some (some ds)) (r : DpAll K G ys es) :
    St K c ⟨A.ρ, A.μ.set k (some es)⟩ G ps σ (upd H p (.lst ys)) where
  st := h.st.mut (h.new p (List.mem_of_getElem? hk)).1 (h.mu k p ds hk hm).1
  len := h.len
  sl := h.sl
  mlen := by rw [List.length_set]; exact h.mlen
  inj := h.inj
  pre := h.pre
  new := fun q hq => ⟨(h.new q hq).1, by
    by_cases z : q = p
    · subst z; rw [upd_same]; exact fun z => nomatch z
    · rw [upd_ne z]; exact (h.new q hq).2⟩
  mu := fun j q fs hj hmj => by
    by_cases z : k = j
    · subst z
      rw [hk] at hj
      have e : p = q := Option.some.inj hj
      subst e
      have hl : k < A.μ.length := (List.getElem?_eq_some_iff.mp hm).1
      have hmj' : (A.μ.set k (some es))[k]? = some (some fs) := hmj
      rw [List.getElem?_set_self hl] at hmj'
      have e2 : es = fs := Option.some.inj (Option.some.inj hmj')
      subst e2
      exact ⟨(h.mu k p ds hk hm).1, ys, upd_same, r⟩
    · have hmj' : (A.μ.set k (some es))[j]? = some (some fs) := hmj
      rw [List.getElem?_set_ne z] at hmj'
      obtain ⟨g, xs, hx, hd⟩ := h.mu j q fs hj hmj'
      refine ⟨g, xs, ?_, hd⟩
      rw [upd_ne (fun w => z (h.inj k j p hk (by rw [← w]; exact hj)))]
      exact hx
/-- a list of one's own stands still from now on: its slots hold data -/
def thawed (k : Nat) (d : PyData) : SV → SV
  | .own j => if j = k then .dat d else .own j
  | sv => sv
def AS.freeze (A : AS) (k : Nat) (ds : List PyData) : AS := ⟨A.ρ.map (thawed k (.list ds)), A.μ.set k none⟩
theorem St.freeze {k : Nat} {ds : List PyData} (h : St K c A G ps σ H) (hm : A.μ[k]? = some (some ds)) : ∃ G', Ex G G' ∧ St K c (A.freeze k ds) G' ps σ H := by
  have hl : k < A.μ.length := (List.getElem?_eq_some_iff.mp hm).1
  have hk : ps[k]? = some (ps[k]'(by rw [h.mlen]; exact hl)) := List.getElem?_eq_getElem _
  generalize ps[k]'(by rw [h.mlen]; exact hl) = p at hk
  obtain ⟨g, xs, hx, hd⟩ := h.mu k p ds hk hm
  have hn := h.new p (List.mem_of_getElem? hk)
  have e : Ex G (upd G p (.lst xs)) := Ex.new g
  refine ⟨upd G p (.lst xs), e, ?_, ?_, ?_, ?_, h.inj, h.pre, h.new, ?_⟩
  · exact h.st.frz hn.1 g hx
  · show σ.length = (A.ρ.map _).length
    rw [List.length_map]; exact h.len
  · intro i sv ei
    have ei' : (A.ρ.map (thawed k (.list ds)))[i]? = some sv := ei
    rw [List.getElem?_map] at ei'
    cases q : A.ρ[i]? with
    | none => rw [q] at ei'; cases ei'
    | some s0 =>
      rw [q] at ei'
      have e2 : thawed k (.list ds) s0 = sv := Option.some.inj ei'
      subst e2
      have old := (h.sl i s0 q).up e
      cases s0 with
      | dat d => exact old
      | pool => exact old
      | any => exact old
      | own j =>
        show SlotOk K c.pa _ ps σ[i]? (if j = k then .dat (.list ds) else .own j)
        by_cases z : j = k
        · subst z
          rw [if_pos rfl]
          obtain ⟨p', h1, h2⟩ := old
          rw [hk] at h1
          have e3 : p = p' := Option.some.inj h1
          subst e3
          exact ⟨.ref p, h2, .lst (.inl (.inl upd_same)) (dp_upAll e ds hd)⟩
        · rw [if_neg z]
          exact old
  · show ps.length = (A.μ.set k none).length
    rw [List.length_set]; exact h.mlen
  · intro j q fs hj hmj
    have hmj' : (A.μ.set k none)[j]? = some (some fs) := hmj
    by_cases z : k = j
    · subst z
      rw [List.getElem?_set_self hl] at hmj'
      cases hmj'
    · rw [List.getElem?_set_ne z] at hmj'
      obtain ⟨g', ys, hy, hd'⟩ := h.mu j q fs hj hmj'
      refine ⟨?_, ys, hy, dp_upAll e fs hd'⟩
      rw [upd_ne (fun w => z (h.inj k j p hk (by rw [← w]; exact hj)))]
      exact g'
theorem ROk.up {v : V} {r : RV} {pa : Option Addr} {K : PySem.W.Frag} (h : ROk K G1 H H1 v r) (h0 : ∀ a, pa = some a → H a ≠ none) (s : Stp K pa G1 H1 G2 H2) : ROk K G2 H H2 v r := by
  cases r with
  | D d => exact dp_up s.ex d h
  | L ds =>
    obtain ⟨p, xs, h1, h2, h3, h4, h5⟩ := h
    exact ⟨p, xs, h1, h2, s.fr p (by rw [h4]; exact fun z => nomatch z) h3, s.keep p _ (fun z => h0 p z h2) h4, dp_upAll s.ex ds h5⟩
end
end Eng

set_option Elab.async false
set_option linter.all false
set_option maxRecDepth 100000
set_option maxHeartbeats 2000000
/-! PyA: what an interpreter of one's own knows of the heap: data that stand still, nodes that are one's own. -/
namespace Py
open PySem PySem.Spec PyProof.Rows L2
open Evl (Ex)
open Eng (dp_up dp_upAll dall_len dall_get dall_getV dall_app dall_set dp_int dp_str dp_bl dp_non dp_list dp_tup wE wT wA wS wB)

/-- a value: data, a node of one's own, nothing known -/
inductive SV where
  | dat (d : PyData) | own (k : Nat) | any | exc (C : Str)
/-- a node -/
inductive ON where
  | gone
  | lst (ds : List PyData)
  | obs (vs : List SV)
  | dct (kvs : List (Key × SV))
  | dctT (kvs : List (List Key × SV))
  | ins (C : Str) (fs : List (Str × SV))
structure AS where
  ρ : List SV
  μ : List ON
/-- the entry: its heap, what stood still then, the nodes that came along, the classes -/
structure Ct where
  H0 : Hp
  B0 : Hp
  own : List Addr
  cm : Str → Option Addr
  /-- the exception that a suite has caught -/
  ea : Option (Str × Addr)

def VOk (K : PySem.W.Frag) (G : Hp) (ps : List Addr) (v : V) : SV → Prop
  | .dat d => Dp K G v d
  | .own k => ∃ p, ps[k]? = some p ∧ v = .ref p
  | .any => False
  | .exc _ => False
def VsOk (K : PySem.W.Frag) (G : Hp) (ps : List Addr) : List V → List SV → Prop
  | [], [] => True
  | v :: vs, s :: ss => VOk K G ps v s ∧ VsOk K G ps vs ss
  | _, _ => False
def KsOk {κ : Type} (K : PySem.W.Frag) (G : Hp) (ps : List Addr) : List (κ × V) → List (κ × SV) → Prop
  | [], [] => True
  | v :: vs, s :: ss => (v.1 = s.1 ∧ VOk K G ps v.2 s.2) ∧ KsOk K G ps vs ss
  | _, _ => False
def NodeOk (K : PySem.W.Frag) (cm : Str → Option Addr) (G : Hp) (ps : List Addr) (H : Hp) (p : Addr) : ON → Prop
  | .gone => True
  | .lst ds => G p = none ∧ ∃ xs, H p = some (.lst xs) ∧ DpAll K G xs ds
  | .obs ss => G p = none ∧ ∃ xs, H p = some (.lst xs) ∧ VsOk K G ps xs ss
  | .dct ks => G p = none ∧ ∃ xs, H p = some (.dK xs) ∧ KsOk K G ps xs ks
  | .dctT ks => G p = none ∧ ∃ xs, H p = some (.dT xs) ∧ KsOk K G ps xs ks
  | .ins C fs => G p = none ∧ ∃ a dx xs, cm C = some a ∧ H p = some (.ins a dx xs) ∧ KsOk K G ps xs fs
def SlotOk (K : PySem.W.Frag) (ea : Option (Str × Addr)) (G : Hp) (ps : List Addr) (slot : Option (Option V)) : SV → Prop
  | .exc C => ∃ a, slot = some (some (.ref a)) ∧ ea = some (C, a)
  | .any => True
  | .dat d => ∃ v, slot = some (some v) ∧ VOk K G ps v (.dat d)
  | .own k => ∃ v, slot = some (some v) ∧ VOk K G ps v (.own k)

/-- a tuple, known or tracked -/
def TupL (o : HO) : Prop := ∃ xs, o = .tup xs ∨ ∃ ob, o = .frz ob (.tup xs)
/-- the heap's part of the state -/
structure HS (K : PySem.W.Frag) (c : Ct) (μ : List ON) (G : Hp) (ps : List Addr) (H : Hp) : Prop where
  ex : Ex c.B0 G
  fr : ∀ b o, c.H0 b ≠ none → c.B0 b = none → G b = some o → TupL o
  keep : ∀ b o, b ∉ c.own → c.H0 b = some o → H b = some o
  live : ∀ b, c.H0 b ≠ none → H b ≠ none
  sub : Ex G H
  mlen : ps.length = μ.length
  nd : ps.Nodup
  pre : ∃ t, ps = c.own ++ t
  new : ∀ p ∈ ps, H p ≠ none ∧ (p ∈ c.own ∨ c.H0 p = none)
  mu : ∀ (k : Nat) (p : Addr) (n : ON), ps[k]? = some p → μ[k]? = some n → NodeOk K c.cm G ps H p n
structure St (K : PySem.W.Frag) (c : Ct) (A : AS) (G : Hp) (ps : List Addr) (σ : L2.St) (H : Hp) : Prop where
  hs : HS K c A.μ G ps H
  len : σ.length = A.ρ.length
  sl : ∀ (i : Nat) (sv : SV), A.ρ[i]? = some sv → SlotOk K c.ea G ps σ[i]? sv

/-- nodes come behind those that are there -/
def Ext (ps qs : List Addr) : Prop := ∃ t, qs = ps ++ t
section
variable {K : PySem.W.Frag} {c : Ct} {A : AS} {μ : List ON} {G H G1 H1 G2 H2 : Hp} {ps qs : List Addr} {σ : L2.St} {cm : Str → Option Addr}
theorem Ext.refl (ps : List Addr) : Ext ps ps := ⟨[], (List.append_nil _).symm⟩
theorem Ext.trans {a b d : List Addr} : Ext a b → Ext b d → Ext a d := fun ⟨t, h⟩ ⟨u, k⟩ => ⟨t ++ u, by rw [k, h, List.append_assoc]⟩
theorem Ext.get {k : Nat} {p : Addr} (e : Ext ps qs) (h : ps[k]? = some p) : qs[k]? = some p := by
  obtain ⟨t, rfl⟩ := e
  rw [List.getElem?_append_left (List.getElem?_eq_some_iff.mp h).1]; exact h
theorem VOk.up {v : V} {s : SV} (e : Ex G G1) (x : Ext ps qs) (h : VOk K G ps v s) : VOk K G1 qs v s := by
  cases s with
  | dat d => exact dp_up e d h
  | own k => obtain ⟨p, h1, h2⟩ := h; exact ⟨p, x.get h1, h2⟩
  | any => exact h
  | exc C => exact h
theorem VsOk.up (e : Ex G G1) (x : Ext ps qs) : ∀ {vs : List V} {ss : List SV}, VsOk K G ps vs ss → VsOk K G1 qs vs ss
  | [], [], _ => True.intro
  | _ :: _, _ :: _, ⟨h, t⟩ => ⟨h.up e x, VsOk.up e x t⟩
theorem KsOk.up {κ : Type} (e : Ex G G1) (x : Ext ps qs) : ∀ {vs : List (κ × V)} {ss : List (κ × SV)}, KsOk K G ps vs ss → KsOk K G1 qs vs ss
  | [], [], _ => True.intro
  | _ :: _, _ :: _, ⟨⟨h1, h⟩, t⟩ => ⟨⟨h1, h.up e x⟩, KsOk.up e x t⟩
theorem VsOk.len : ∀ {vs : List V} {ss : List SV}, VsOk K G ps vs ss → vs.length = ss.length
  | [], [], _ => rfl
  | _ :: _, _ :: _, ⟨_, t⟩ => congrArg (· + 1) (VsOk.len t)
theorem KsOk.len {κ : Type} : ∀ {vs : List (κ × V)} {ss : List (κ × SV)}, KsOk K G ps vs ss → vs.length = ss.length
  | [], [], _ => rfl
  | _ :: _, _ :: _, ⟨_, t⟩ => congrArg (· + 1) (KsOk.len t)
theorem SlotOk.up {ea : Option (Str × Addr)} {slot : Option (Option V)} {s : SV} (e : Ex G G1) (x : Ext ps qs) (h : SlotOk K ea G ps slot s) : SlotOk K ea G1 qs slot s := by
  cases s with
  | exc C => exact h
  | any => exact h
  | dat d => obtain ⟨v, h1, h2⟩ := h; exact ⟨v, h1, VOk.up (s := .dat d) e x h2⟩
  | own k => obtain ⟨v, h1, h2⟩ := h; exact ⟨v, h1, VOk.up (s := .own k) e x h2⟩
theorem NodeOk.up {p : Addr} {n : ON} (e : Ex G G1) (x : Ext ps qs) (hg : n = .gone ∨ G1 p = none) (hh : ∀ o, H p = some o → H1 p = some o) (h : NodeOk K cm G ps H p n) : NodeOk K cm G1 qs H1 p n := by
  cases n with
  | gone => exact True.intro
  | lst ds => obtain ⟨g, xs, h1, h2⟩ := h; exact ⟨hg.resolve_left (fun z => nomatch z), xs, hh _ h1, dp_upAll e ds h2⟩
  | obs ss => obtain ⟨g, xs, h1, h2⟩ := h; exact ⟨hg.resolve_left (fun z => nomatch z), xs, hh _ h1, h2.up e x⟩
  | dct ks => obtain ⟨g, xs, h1, h2⟩ := h; exact ⟨hg.resolve_left (fun z => nomatch z), xs, hh _ h1, h2.up e x⟩
  | dctT ks => obtain ⟨g, xs, h1, h2⟩ := h; exact ⟨hg.resolve_left (fun z => nomatch z), xs, hh _ h1, h2.up e x⟩
  | ins C fs => obtain ⟨g, a, dx, xs, h0, h1, h2⟩ := h; exact ⟨hg.resolve_left (fun z => nomatch z), a, dx, xs, h0, hh _ h1, h2.up e x⟩
theorem NodeOk.free {p : Addr} {n : ON} (h : NodeOk K cm G ps H p n) : n = .gone ∨ G p = none := by
  cases n with
  | gone => exact .inl rfl
  | _ => exact .inr h.1

theorem get_last {α : Type} {l : List α} {x y : α} {k : Nat} (h : (l ++ [x])[k]? = some y) : l[k]? = some y ∨ (k = l.length ∧ y = x) := by
  by_cases hk : k < l.length
  · rw [List.getElem?_append_left hk] at h; exact .inl h
  · rw [List.getElem?_append_right (by omega)] at h
    have e : k - l.length = 0 := by
      cases q : k - l.length with
      | zero => rfl
      | succ n => rw [q] at h; simp at h
    rw [e] at h
    exact .inr ⟨by omega, (Option.some.inj h).symm⟩
theorem nodup_idx {l : List Addr} (h : l.Nodup) {i j : Nat} {p : Addr} (hi : l[i]? = some p) (hj : l[j]? = some p) : i = j := by
  obtain ⟨a, b⟩ := List.getElem?_eq_some_iff.mp hi
  obtain ⟨a', b'⟩ := List.getElem?_eq_some_iff.mp hj
  have z := List.pairwise_iff_getElem.mp h
  rcases Nat.lt_trichotomy i j with q | q | q
  · exact absurd (b.trans b'.symm) (z i j a a' q)
  · exact q
  · exact absurd (b'.trans b.symm) (z j i a' a q)

theorem HS.n0 (h : HS K c μ G ps H) {p : Addr} (hp : H p = none) : p ∉ ps ∧ c.H0 p = none ∧ p ∉ c.own ∧ G p = none := by
  have z1 : p ∉ ps := fun m => (h.new p m).1 hp
  refine ⟨z1, ?_, fun m => ?_, Evl.fresh_back h.sub hp⟩
  · cases q : c.H0 p with
    | none => rfl
    | some o => exact absurd hp (h.live p (by rw [q]; exact fun z => nomatch z))
  · obtain ⟨t, e⟩ := h.pre
    exact z1 (by rw [e]; exact List.mem_append_left _ m)
/-- a new object that stands still -/
theorem HS.newD {p : Addr} {o : HO} (h : HS K c μ G ps H) (hp : H p = none) : HS K c μ (upd G p o) ps (upd H p o) ∧ Ex G (upd G p o) := by
  obtain ⟨z1, z2, z3, z4⟩ := h.n0 hp
  have e : Ex G (upd G p o) := Ex.new z4
  refine ⟨⟨h.ex.trans e, fun b o' hb g q => ?_, fun b o' hb q => ?_, fun b hb => ?_, fun b u q => ?_, h.mlen, h.nd, h.pre, fun q hq => ⟨?_, (h.new q hq).2⟩, fun k q n hk hn => ?_⟩, e⟩
  · rw [upd_ne (fun z => hb (by rw [z]; exact z2))] at q; exact h.fr b o' hb g q
  · rw [upd_ne (fun z => by rw [z, z2] at q; cases q)]; exact h.keep b o' hb q
  · rw [upd_ne (fun z => hb (by rw [z]; exact z2))]; exact h.live b hb
  · by_cases z : b = p
    · subst z; rw [upd_same] at q ⊢; exact q
    · rw [upd_ne z] at q ⊢; exact h.sub b u q
  · rw [upd_ne (fun z => z1 (by rw [← z]; exact hq))]; exact (h.new q hq).1
  · have hq := List.mem_of_getElem? hk
    have ne : q ≠ p := fun z => z1 (by rw [← z]; exact hq)
    have old := h.mu k q n hk hn
    exact old.up e (Ext.refl _) (old.free.imp id fun g => by rw [upd_ne ne]; exact g) fun o' ho => by rw [upd_ne ne]; exact ho
/-- a new object of one's own -/
theorem HS.lay {p : Addr} {o : HO} {n : ON} (h : HS K c μ G ps H) (hp : H p = none) (hn : NodeOk K c.cm G (ps ++ [p]) (upd H p o) p n) : HS K c (μ ++ [n]) G (ps ++ [p]) (upd H p o) := by
  obtain ⟨z1, z2, z3, z4⟩ := h.n0 hp
  refine ⟨h.ex, h.fr, fun b o' hb q => ?_, fun b hb => ?_, Ex.mut h.sub z4, by simp [h.mlen], ?_, ?_, fun q hq => ?_, fun k q m hk hm => ?_⟩
  · rw [upd_ne (fun z => by rw [z, z2] at q; cases q)]; exact h.keep b o' hb q
  · rw [upd_ne (fun z => hb (by rw [z]; exact z2))]; exact h.live b hb
  · refine List.nodup_append.mpr ⟨h.nd, by simp, fun a ha b hb => ?_⟩
    rw [List.mem_singleton.mp hb]; exact fun z => z1 (z ▸ ha)
  · obtain ⟨t, e⟩ := h.pre
    exact ⟨t ++ [p], by rw [e, List.append_assoc]⟩
  · rcases List.mem_append.mp hq with q1 | q1
    · exact ⟨by rw [upd_ne (fun z => z1 (by rw [← z]; exact q1))]; exact (h.new q q1).1, (h.new q q1).2⟩
    · rw [List.mem_singleton.mp q1]
      exact ⟨(by rw [upd_same]; exact fun z => (nomatch z)), .inr z2⟩
  · rcases get_last hk with hk | ⟨hk, ep⟩
    · have hkl := (List.getElem?_eq_some_iff.mp hk).1
      rw [List.getElem?_append_left (by rw [← h.mlen]; exact hkl)] at hm
      have ne : q ≠ p := fun z => z1 (by rw [← z]; exact List.mem_of_getElem? hk)
      have old := h.mu k q m hk hm
      exact old.up (Ex.refl G) ⟨[p], rfl⟩ old.free fun o' ho => by rw [upd_ne ne]; exact ho
    · rw [hk, h.mlen, List.getElem?_append_right (Nat.le_refl _), Nat.sub_self] at hm
      have e : n = m := Option.some.inj hm
      rw [ep, ← e]
      exact hn
/-- a node changes -/
theorem HS.chg {k : Nat} {p : Addr} {o : HO} {n m : ON} (h : HS K c μ G ps H) (hk : ps[k]? = some p) (hm : μ[k]? = some m) (hg : m ≠ .gone) (hn : NodeOk K c.cm G ps (upd H p o) p n) : HS K c (μ.set k n) G ps (upd H p o) := by
  have hmem := List.mem_of_getElem? hk
  have gp : G p = none := (h.mu k p m hk hm).free.resolve_left hg
  refine ⟨h.ex, h.fr, fun b o' hb q => ?_, fun b hb => ?_, Ex.mut h.sub gp, by rw [List.length_set]; exact h.mlen, h.nd, h.pre, fun q hq => ⟨?_, (h.new q hq).2⟩, fun j q l hj hl => ?_⟩
  · rw [upd_ne (fun z => ?_)]
    · exact h.keep b o' hb q
    · subst z
      rcases (h.new b hmem).2 with w | w
      · exact hb w
      · rw [w] at q; cases q
  · by_cases z : b = p
    · subst z; rw [upd_same]; exact fun z => nomatch z
    · rw [upd_ne z]; exact h.live b hb
  · by_cases z : q = p
    · subst z; rw [upd_same]; exact fun z => nomatch z
    · rw [upd_ne z]; exact (h.new q hq).1
  · by_cases z : k = j
    · subst z
      rw [hk] at hj
      have e : p = q := Option.some.inj hj
      subst e
      rw [List.getElem?_set_self (List.getElem?_eq_some_iff.mp hm).1] at hl
      have e2 : n = l := Option.some.inj hl
      subst e2
      exact hn
    · rw [List.getElem?_set_ne z] at hl
      have old := h.mu j q l hj hl
      have ne : q ≠ p := fun w => z (nodup_idx h.nd hk (by rw [← w]; exact hj))
      exact old.up (Ex.refl G) (Ext.refl _) old.free fun o' ho => by rw [upd_ne ne]; exact ho

/-! ### freezing -/
def frzV (k : Nat) (d : PyData) : SV → SV
  | .own j => if j = k then .dat d else .own j
  | s => s
def frzN (k : Nat) (d : PyData) : ON → ON
  | .obs vs => .obs (vs.map (frzV k d))
  | .dct ks => .dct (ks.map fun p => (p.1, frzV k d p.2))
  | .dctT ks => .dctT (ks.map fun p => (p.1, frzV k d p.2))
  | .ins C fs => .ins C (fs.map fun p => (p.1, frzV k d p.2))
  | n => n
def frzA (k : Nat) (d : PyData) (A : AS) : AS := ⟨A.ρ.map (frzV k d), (A.μ.map (frzN k d)).set k .gone⟩
theorem VOk.frz {k : Nat} {d : PyData} {p : Addr} {v : V} {s : SV} (hk : ps[k]? = some p) (hd : Dp K G (.ref p) d) (h : VOk K G ps v s) : VOk K G ps v (frzV k d s) := by
  cases s with
  | dat d => exact h
  | any => exact h
  | exc C => exact h
  | own j =>
    show VOk K G ps v (if j = k then .dat d else .own j)
    by_cases e : j = k
    · subst e
      rw [if_pos rfl]
      obtain ⟨q, h1, h2⟩ := h
      rw [hk] at h1
      have e2 : p = q := Option.some.inj h1
      subst e2; subst h2
      exact hd
    · rw [if_neg e]; exact h
theorem VsOk.frz {k : Nat} {d : PyData} {p : Addr} (hk : ps[k]? = some p) (hd : Dp K G (.ref p) d) : ∀ {vs : List V} {ss : List SV}, VsOk K G ps vs ss → VsOk K G ps vs (ss.map (frzV k d))
  | [], [], _ => True.intro
  | _ :: _, _ :: _, ⟨h, t⟩ => ⟨h.frz hk hd, VsOk.frz hk hd t⟩
theorem KsOk.frz {κ : Type} {k : Nat} {d : PyData} {p : Addr} (hk : ps[k]? = some p) (hd : Dp K G (.ref p) d) : ∀ {vs : List (κ × V)} {ss : List (κ × SV)}, KsOk K G ps vs ss → KsOk K G ps vs (ss.map fun p => (p.1, frzV k d p.2))
  | [], [], _ => True.intro
  | _ :: _, _ :: _, ⟨⟨h1, h⟩, t⟩ => ⟨⟨h1, h.frz hk hd⟩, KsOk.frz hk hd t⟩
theorem NodeOk.frz {k : Nat} {d : PyData} {p q : Addr} {n : ON} (hk : ps[k]? = some p) (hd : Dp K G (.ref p) d) (h : NodeOk K cm G ps H q n) : NodeOk K cm G ps H q (frzN k d n) := by
  cases n with
  | gone => exact h
  | lst ds => exact h
  | obs ss => obtain ⟨g, xs, h1, h2⟩ := h; exact ⟨g, xs, h1, h2.frz hk hd⟩
  | dct ks => obtain ⟨g, xs, h1, h2⟩ := h; exact ⟨g, xs, h1, h2.frz hk hd⟩
  | dctT ks => obtain ⟨g, xs, h1, h2⟩ := h; exact ⟨g, xs, h1, h2.frz hk hd⟩
  | ins C fs => obtain ⟨g, a, dx, xs, h0, h1, h2⟩ := h; exact ⟨g, a, dx, xs, h0, h1, h2.frz hk hd⟩
/-- a list of data of one's own stands still from now on -/
theorem St.freeze {k : Nat} {ds : List PyData} (h : St K c A G ps σ H) (hm : A.μ[k]? = some (.lst ds)) (hr : c.own.length ≤ k) : ∃ G', Ex G G' ∧ St K c (frzA k (.list ds) A) G' ps σ H ∧ ∃ p, ps[k]? = some p ∧ Dp K G' (.ref p) (.list ds) := by
  have hl : k < A.μ.length := (List.getElem?_eq_some_iff.mp hm).1
  obtain ⟨p, hk⟩ : ∃ p, ps[k]? = some p := ⟨_, List.getElem?_eq_getElem (by rw [h.hs.mlen]; exact hl)⟩
  obtain ⟨g, xs, hx, hd⟩ := h.hs.mu k p _ hk hm
  have e : Ex G (upd G p (.lst xs)) := Ex.new g
  have dd : Dp K (upd G p (.lst xs)) (.ref p) (.list ds) := .lst (.inl (.inl upd_same)) (dp_upAll e ds hd)
  have hmem := List.mem_of_getElem? hk
  have nown : c.H0 p = none := by
    rcases (h.hs.new p hmem).2 with w | w
    · obtain ⟨t, et⟩ := h.hs.pre
      obtain ⟨j, hj, ej⟩ := List.mem_iff_getElem.mp w
      have hj2 : ps[j]? = some p := by rw [et, List.getElem?_append_left hj, List.getElem?_eq_getElem hj, ej]
      have := nodup_idx h.hs.nd hk hj2
      omega
    · exact w
  refine ⟨_, e, ⟨⟨h.hs.ex.trans e, fun b o' hb gb q => ?_, h.hs.keep, h.hs.live, fun b u q => ?_, by show ps.length = ((A.μ.map _).set k _).length; rw [List.length_set, List.length_map]; exact h.hs.mlen, h.hs.nd, h.hs.pre, h.hs.new, fun j q n hj hn => ?_⟩, by show σ.length = (A.ρ.map _).length; rw [List.length_map]; exact h.len, fun i sv ei => ?_⟩, p, hk, dd⟩
  · rw [upd_ne (fun z => hb (by rw [z]; exact nown))] at q; exact h.hs.fr b o' hb gb q
  · by_cases z : b = p
    · subst z; rw [upd_same] at q; rw [hx]; exact q
    · rw [upd_ne z] at q; exact h.hs.sub b u q
  · have hn' : ((A.μ.map (frzN k (.list ds))).set k .gone)[j]? = some n := hn
    by_cases z : k = j
    · subst z
      rw [List.getElem?_set_self (by rw [List.length_map]; exact hl)] at hn'
      have e2 : ON.gone = n := Option.some.inj hn'
      subst e2
      exact True.intro
    · rw [List.getElem?_set_ne z, List.getElem?_map] at hn'
      cases q2 : A.μ[j]? with
      | none => rw [q2] at hn'; cases hn'
      | some n0 =>
        rw [q2] at hn'
        have e2 : frzN k (.list ds) n0 = n := Option.some.inj hn'
        subst e2
        have old := h.hs.mu j q n0 hj q2
        have ne : q ≠ p := fun w => z (nodup_idx h.hs.nd hk (by rw [← w]; exact hj))
        exact (old.up e (Ext.refl _) (old.free.imp id fun g => by rw [upd_ne ne]; exact g) fun o ho => ho).frz hk dd
  · have ei' : (A.ρ.map (frzV k (.list ds)))[i]? = some sv := ei
    rw [List.getElem?_map] at ei'
    cases q : A.ρ[i]? with
    | none => rw [q] at ei'; cases ei'
    | some s0 =>
      rw [q] at ei'
      have e2 : frzV k (.list ds) s0 = sv := Option.some.inj ei'
      subst e2
      have old := (h.sl i s0 q).up e (Ext.refl ps)
      cases s0 with
      | any => exact old
      | exc C => exact old
      | dat d => exact old
      | own j =>
        obtain ⟨v, h1, h2⟩ := old
        have z := VOk.frz (s := .own j) hk dd h2
        unfold frzV at z ⊢
        dsimp only at z ⊢
        split at z
        · rw [if_pos ‹_›]; exact ⟨v, h1, z⟩
        · rw [if_neg ‹_›]; exact ⟨v, h1, z⟩

/-! ### slots -/
theorem St.put {i : Nat} {v : V} {sv : SV} (h : St K c A G ps σ H) (r : VOk K G ps v sv) : St K c ⟨A.ρ.set i sv, A.μ⟩ G ps (σ.set i (some v)) H where
  hs := h.hs
  len := by rw [List.length_set, List.length_set]; exact h.len
  sl := fun j s e => by
    have e' : (A.ρ.set i sv)[j]? = some s := e
    by_cases z : i = j
    · subst z
      have hl : i < A.ρ.length := by
        rw [List.getElem?_set_self'] at e'
        cases q : A.ρ[i]? with
        | none => rw [q] at e'; cases e'
        | some y => exact (List.getElem?_eq_some_iff.mp q).1
      rw [List.getElem?_set_self hl] at e'
      have e2 : sv = s := Option.some.inj e'
      subst e2
      have hs : (σ.set i (some v))[i]? = some (some v) := List.getElem?_set_self (by rw [h.len]; exact hl)
      cases sv with
      | any => exact True.intro
      | exc C => exact r.elim
      | dat d => exact ⟨v, hs, r⟩
      | own k => exact ⟨v, hs, r⟩
    · rw [List.getElem?_set_ne z] at e'
      rw [List.getElem?_set_ne z]
      exact h.sl j s e'
/-- a slot is forgotten, whatever becomes of it -/
theorem St.drop {i : Nat} {x : Option V} (h : St K c A G ps σ H) : St K c ⟨A.ρ.set i .any, A.μ⟩ G ps (σ.set i x) H where
  hs := h.hs
  len := by rw [List.length_set, List.length_set]; exact h.len
  sl := fun j s e => by
    have e' : (A.ρ.set i SV.any)[j]? = some s := e
    by_cases z : i = j
    · subst z
      have hl : i < A.ρ.length := by
        rw [List.getElem?_set_self'] at e'
        cases q : A.ρ[i]? with
        | none => rw [q] at e'; cases e'
        | some y => exact (List.getElem?_eq_some_iff.mp q).1
      rw [List.getElem?_set_self hl] at e'
      have e2 : SV.any = s := Option.some.inj e'
      subst e2
      exact True.intro
    · rw [List.getElem?_set_ne z] at e'
      rw [List.getElem?_set_ne z]
      exact h.sl j s e'
theorem St.forget {i : Nat} (h : St K c A G ps σ H) : St K c ⟨A.ρ.set i .any, A.μ⟩ G ps σ H where
  hs := h.hs
  len := by rw [List.length_set]; exact h.len
  sl := fun j s e => by
    have e' : (A.ρ.set i SV.any)[j]? = some s := e
    by_cases z : i = j
    · subst z
      have hl : i < A.ρ.length := by
        rw [List.getElem?_set_self'] at e'
        cases q : A.ρ[i]? with
        | none => rw [q] at e'; cases e'
        | some y => exact (List.getElem?_eq_some_iff.mp q).1
      rw [List.getElem?_set_self hl] at e'
      have e2 : SV.any = s := Option.some.inj e'
      subst e2
      exact True.intro
    · rw [List.getElem?_set_ne z] at e'
      exact h.sl j s e'
/-- the heap goes on, the slots as they are -/
theorem St.on {μ1 : List ON} (h : St K c A G ps σ H) (e : Ex G G1) (x : Ext ps qs) (k : HS K c μ1 G1 qs H1) : St K c ⟨A.ρ, μ1⟩ G1 qs σ H1 :=
  ⟨k, h.len, fun i sv ei => (h.sl i sv ei).up e x⟩
/-- what is seen of a value now -/
def viewOf (μ : List ON) : SV → Option PyData
  | .dat d => some d
  | .own k => match μ[k]? with
    | some (.lst ds) => some (.list ds)
    | _ => none
  | .any => none
  | .exc _ => none
theorem VOk.view {v : V} {s : SV} {d : PyData} (h : HS K c μ G ps H) (r : VOk K G ps v s) (e : viewOf μ s = some d) : Dp K H v d := by
  cases s with
  | dat d0 =>
    have e' : d0 = d := Option.some.inj e
    subst e'
    exact dp_up h.sub d0 r
  | any => cases e
  | exc C => cases e
  | own k =>
    obtain ⟨p, hk, rfl⟩ := r
    unfold viewOf at e
    dsimp only at e
    split at e
    · cases e
      rename_i ds hm
      obtain ⟨g, xs, hx, hd⟩ := h.mu k p _ hk hm
      exact .lst (.inl (.inl hx)) (dp_upAll h.sub _ hd)
    · cases e
end
end Py

set_option Elab.async false
set_option linter.all false
set_option maxRecDepth 100000
set_option maxHeartbeats 2000000
namespace Eng
open PySem PySem.Spec PyProof.Rows L2
open Evl (Ex)

structure ADs where
  nx : AS → Prop
  rt : RV → AS → Prop
  bk : AS → Prop := fun _ => False
  ct : AS → Prop := fun _ => False
def nxt (K : PySem.W.Frag) (c : Ct) (G : Hp) (P : AS → Prop) : L2.St → Hp → Prop := fun σ H => ∃ A G' ps, Ex G G' ∧ St K c A G' ps σ H ∧ P A
def retd (K : PySem.W.Frag) (c : Ct) (P : RV → AS → Prop) : VK := fun v H => ∃ r A G ps σ, St K c A G ps σ H ∧ ROk K G c.H0 H v r ∧ P r A
def ends (K : PySem.W.Frag) (c : Ct) (G : Hp) (D : ADs) : Ends := ⟨nxt K c G D.nx, retd K c D.rt, nxt K c G D.bk, nxt K c G D.ct⟩

inductive AV where
  | dat (d : PyData) | pool
def AOk (K : PySem.W.Frag) (pa : Option Addr) (G : Hp) (v : V) : AV → Prop
  | .dat d => Dp K G v d
  | .pool => ∃ a, pa = some a ∧ v = .ref a
def AsOk (K : PySem.W.Frag) (pa : Option Addr) (G : Hp) : List V → List AV → Prop
  | [], [] => True
  | v :: vs, a :: as => AOk K pa G v a ∧ AsOk K pa G vs as
  | _, _ => False
section
variable {K : PySem.W.Frag} {pa : Option Addr} {G G' : Hp}
theorem AOk.up {v : V} {a : AV} (e : Ex G G') (h : AOk K pa G v a) : AOk K pa G' v a := by
  cases a with
  | dat d => exact dp_up e d h
  | pool => exact h
theorem AsOk.up (e : Ex G G') : ∀ {vs : List V} {as : List AV}, AsOk K pa G vs as → AsOk K pa G' vs as
  | [], [], _ => True.intro
  | _ :: _, _ :: _, ⟨h, t⟩ => ⟨h.up e, AsOk.up e t⟩
theorem AsOk.len : ∀ {vs : List V} {as : List AV}, AsOk K pa G vs as → vs.length = as.length
  | [], [], _ => rfl
  | _ :: _, _ :: _, ⟨_, t⟩ => congrArg (· + 1) (AsOk.len t)
end

def WE (X : Cx) (c : Ct) (e : Expr) (A : AS) (Q : PyData → Prop) : Prop := ∀ G ps σ H, St X.K c A G ps σ H → wE X e σ H fun v H' => ∃ G' d, Stp X.K c.pa G H G' H' ∧ Dp X.K G' v d ∧ Q d
def WL (X : Cx) (c : Ct) (e : Expr) (A : AS) (Q : List PyData → Prop) : Prop := ∀ G ps σ H, St X.K c A G ps σ H → wE X e σ H fun v H' => ∃ G' ds, Stp X.K c.pa G H G' H' ∧ ROk X.K G' H H' v (.L ds) ∧ Q ds
def WT (X : Cx) (c : Ct) (e : Expr) (A : AS) (Q : Bool → Prop) : Prop := ∀ G ps σ H, St X.K c A G ps σ H → wT X e σ H fun b H' => ∃ G', Stp X.K c.pa G H G' H' ∧ Q b
def WA (X : Cx) (c : Ct) (es : List Expr) (A : AS) (Q : List AV → Prop) : Prop := ∀ G ps σ H, St X.K c A G ps σ H → wA X es σ H fun vs H' => ∃ G' as, Stp X.K c.pa G H G' H' ∧ AsOk X.K c.pa G' vs as ∧ Q as
def WS (X : Cx) (c : Ct) (st : Stmt) (A : AS) (D : ADs) : Prop := ∀ G ps σ H, St X.K c A G ps σ H → wS X st (ends X.K c G D) σ H
def WB (X : Cx) (c : Ct) (sts : List Stmt) (A : AS) (D : ADs) : Prop := ∀ G ps σ H, St X.K c A G ps σ H → wB X sts (ends X.K c G D) σ H

section
variable {X : Cx} {c : Ct} {A : AS} {e a b : Expr} {es : List Expr} {pos : Pos} {Q : PyData → Prop}

theorem we_imp {Q' : PyData → Prop} (h : WE X c e A Q) (k : ∀ d, Q d → Q' d) : WE X c e A Q' := fun G ps σ H S =>
  wE_mono (h G ps σ H S) fun _ _ ⟨G', d, s, r, q⟩ => ⟨G', d, s, r, k d q⟩
/-! ### names, constants -/
theorem we_name {i : Nat} {x : Str} {d : PyData} (hρ : A.ρ[i]? = some (.dat d)) (q : Q d) (hN : X.N[i]? = some x := by rfl) (hv : Vis X.env.scope x := by first | exact Or.inl rfl | exact Or.inr (Or.inl rfl) | exact Or.inr (Or.inr rfl))
    (hd : (x == ("__debug__" : Str)) = false := by decide) (hcd : (x == ("__classdict__" : Str)) = false := by decide) : WE X c (.Name x pos) A Q := fun G ps σ H S => by
  obtain ⟨v, h1, h2⟩ := S.sl i _ hρ
  exact wE_of (pe_var hN hv hd hcd) ⟨v, h1, G, d, S.refl, h2, q⟩
theorem we_int {i : Int} {j} (q : Q (.int i)) : WE X c (.Constant (.int i) j pos) A Q := fun G _ _ _ S => wE_of pe_int ⟨G, _, S.refl, .int i, q⟩
theorem we_str {i : Str} {j} (q : Q (.str i)) : WE X c (.Constant (.str i) j pos) A Q := fun G _ _ _ S => wE_of pe_str ⟨G, _, S.refl, .str i, q⟩
theorem we_bool {i : Bool} {j} (q : Q (.bool i)) : WE X c (.Constant (.bool i) j pos) A Q := fun G _ _ _ S => wE_of pe_bl ⟨G, _, S.refl, .bl i, q⟩
theorem we_none {j} (q : Q .none) : WE X c (.Constant .none j pos) A Q := fun G _ _ _ S => wE_of pe_non ⟨G, _, S.refl, .non, q⟩
/-- a constant of the module -/
structure Gc (K : PySem.W.Frag) (mg : Str → Option Value) (x : Str) (d : PyData) : Prop where
  ex : ∃ v u, mg x = some u ∧ RelV v u ∧ ∀ G, Dp K G v d
theorem we_glob {x : Str} {d : PyData} (g : Gc X.K X.mg x d) (q : Q d) (hg : Gl X x := by rfl) (hd : (x == ("__debug__" : Str)) = false := by decide) : WE X c (.Name x pos) A Q := fun G _ _ _ S => by
  obtain ⟨v, u, h1, h2, h3⟩ := g.ex
  exact wE_of (pe_glob hg h1 h2 hd) ⟨G, d, S.refl, h3 G, q⟩

/-! ### operators by data -/
def OpD (X : Cx) (c : Ct) (f : Value → Value → Sem Value) (d1 d2 : PyData) (Q : PyData → Prop) : Prop := ∃ r : R2, OpR X f r ∧
  ∀ Gs Hs G H v1 v2, Stp X.K c.pa Gs Hs G H → Dp X.K G v1 d1 → Dp X.K G v2 d2 → r v1 v2 H fun v H' => ∃ G' d, Stp X.K c.pa G H G' H' ∧ Dp X.K G' v d ∧ Q d
theorem bin2 {R : V → V → Hp → Prop} {σ : L2.St} {G H : Hp} {ps : List Addr} (S : St X.K c A G ps σ H) (h : WE X c a A fun d1 => WE X c b A fun d2 => ∀ Gs Hs G' H' v1 v2, Stp X.K c.pa Gs Hs G' H' → Stp X.K c.pa G H G' H' → Dp X.K G' v1 d1 → Dp X.K G' v2 d2 → R v1 v2 H') :
    wE X a σ H fun x H1 => wE X b σ H1 fun y H2 => R x y H2 :=
  wE_mono (h G ps σ H S) fun v1 H1 ⟨G1, d1, s1, r1, q1⟩ => wE_mono (q1 G1 ps σ H1 (S.step s1)) fun v2 H2 ⟨G2, d2, s2, r2, q2⟩ => q2 G1 H1 G2 H2 v1 v2 s2 (s1.trans s2) (dp_up s2.ex d1 r1) r2
theorem we_bin {op : Operator} (h : WE X c a A fun d1 => WE X c b A fun d2 => OpD X c (binaryOp op) d1 d2 Q) : WE X c (.BinOp a op b pos) A Q := fun G ps σ H S pins s I =>
  wpAny_BinOp (binT (R := fun v1 v2 H' => ∃ G' d1 d2, Stp X.K c.pa G H G' H' ∧ Dp X.K G' v1 d1 ∧ Dp X.K G' v2 d2 ∧ OpD X c (binaryOp op) d1 d2 Q) pe_w pe_w I
    (wE_mono (h G ps σ H S) fun v1 H1 ⟨G1, d1, s1, r1, q1⟩ => wE_mono (q1 G1 ps σ H1 (S.step s1)) fun v2 H2 ⟨G2, d2, s2, r2, q2⟩ => ⟨G2, d1, d2, s1.trans s2, dp_up s2.ex d1 r1, r2, q2⟩)
    fun v u s2 x y H2 I2 rx ry ⟨G2, d1, d2, st, z1, z2, r, ho, q⟩ => thn (ho pins s2 σ H2 x y v u _ I2 rx ry (q G H G2 H2 x y st z1 z2)) fun _ _ ⟨v', H', I', r', G', d, st', dd, qq⟩ => ⟨v', H', I', r', G', d, st.trans st', dd, qq⟩)
theorem we_cmp {op : CmpOp} (h : WE X c a A fun d1 => WE X c b A fun d2 => OpD X c (compareOp op) d1 d2 Q) (hm : behindInMarks op b = false := by first | exact nomark _ | with_unfolding_all rfl) : WE X c (.Compare a [op] [b] pos) A Q := fun G ps σ H S pins s I =>
  wpAny_Compare1 (binT (R := fun v1 v2 H' => ∃ G' d1 d2, Stp X.K c.pa G H G' H' ∧ Dp X.K G' v1 d1 ∧ Dp X.K G' v2 d2 ∧ OpD X c (compareOp op) d1 d2 Q) pe_w pe_w I
    (wE_mono (h G ps σ H S) fun v1 H1 ⟨G1, d1, s1, r1, q1⟩ => wE_mono (q1 G1 ps σ H1 (S.step s1)) fun v2 H2 ⟨G2, d2, s2, r2, q2⟩ => ⟨G2, d1, d2, s1.trans s2, dp_up s2.ex d1 r1, r2, q2⟩)
    fun v u s2 x y H2 I2 rx ry ⟨G2, d1, d2, st, z1, z2, r, ho, q⟩ => thn (ho pins s2 σ H2 x y v u _ I2 rx ry (q G H G2 H2 x y st z1 z2)) fun _ _ ⟨v', H', I', r', G', d, st', dd, qq⟩ => ⟨v', H', I', r', G', d, st.trans st', dd, qq⟩) hm
theorem wt_cmp {op : CmpOp} {Q : Bool → Prop} (h : WE X c a A fun d1 => WE X c b A fun d2 => OpD X c (compareOp op) d1 d2 fun d => ∃ k, d = .bool k ∧ Q k) (hm : behindInMarks op b = false := by first | exact nomark _ | with_unfolding_all rfl) : WT X c (.Compare a [op] [b] pos) A Q := fun G ps σ H S pins s I => by
  refine wpAny_isTrue_Compare1 (thn (h G ps σ H S pins s I) fun v1 s1 ⟨x, H1, I1, rx, G1, d1, st1, z1, q1⟩ => thn (q1 G1 ps σ H1 (S.step st1) pins s1 I1) fun v2 s2 ⟨y, H2, I2, ry, G2, d2, st2, z2, r, ho, q2⟩ =>
    thn (ho pins s2 σ H2 x y v1 v2 _ I2 rx ry (q2 G1 H1 G2 H2 x y st2 (dp_up st2.ex d1 z1) z2)) fun w s3 ⟨z, H3, I3, r3, G3, d3, st3, z3, k, e3, q3⟩ => ?_) hm
  subst e3
  cases z3
  cases r3
  exact wpAny_truthy_bool ⟨H3, I3, G3, (st1.trans st2).trans st3, q3⟩
theorem od_I {f : Value → Value → Sem Value} {C : Int → Int → Prop} {g : Int → Int → Int} {i j : Int} (h : OpR X f (rI C fun i j => .int (g i j))) (hc : C i j) (q : Q (.int (g i j))) : OpD X c f (.int i) (.int j) Q :=
  ⟨_, h, fun _ _ G H v1 v2 s h1 h2 => ⟨i, j, dp_int h1, dp_int h2, hc, G, _, s.refl, .int _, q⟩⟩
theorem od_I0 {f : Value → Value → Sem Value} {g : Int → Int → Int} {i j : Int} (h : OpR X f (rI0 fun i j => .int (g i j))) (q : Q (.int (g i j))) : OpD X c f (.int i) (.int j) Q :=
  ⟨_, h, fun _ _ G H v1 v2 s h1 h2 => ⟨i, j, dp_int h1, dp_int h2, G, _, s.refl, .int _, q⟩⟩
theorem od_B0 {f : Value → Value → Sem Value} {g : Int → Int → Bool} {i j : Int} (h : OpR X f (rI0 fun i j => .bl (g i j))) (q : Q (.bool (g i j))) : OpD X c f (.int i) (.int j) Q :=
  ⟨_, h, fun _ _ G H v1 v2 s h1 h2 => ⟨i, j, dp_int h1, dp_int h2, G, _, s.refl, .bl _, q⟩⟩
variable {i j : Int}
theorem od_add (q : Q (.int (i + j))) : OpD X c (binaryOp .Add) (.int i) (.int j) Q := od_I0 op_add q
theorem od_sub (q : Q (.int (i - j))) : OpD X c (binaryOp .Sub) (.int i) (.int j) Q := od_I0 op_sub q
theorem od_mul (hc : CMul i j) (q : Q (.int (i * j))) : OpD X c (binaryOp .Mult) (.int i) (.int j) Q := od_I op_mul hc q
theorem od_mod (hc : 0 < j) (q : Q (.int (i % j))) : OpD X c (binaryOp .Mod) (.int i) (.int j) Q := od_I op_mod hc q
theorem od_div (hc : 0 < j ∧ j.natAbs.log2 < 9000) (q : Q (.int (i / j))) : OpD X c (binaryOp .FloorDiv) (.int i) (.int j) Q := od_I op_fdivW hc q
theorem od_shr (hc : 0 ≤ j) (q : Q (.int (i / 2 ^ j.toNat))) : OpD X c (binaryOp .RShift) (.int i) (.int j) Q := od_I op_shr hc q
theorem od_shl (hc : CShl i j) (q : Q (.int (i * 2 ^ j.toNat))) : OpD X c (binaryOp .LShift) (.int i) (.int j) Q := od_I op_shlW hc q
theorem od_and (q : Q (.int (Builtin.bitAnd i j))) : OpD X c (binaryOp .BitAnd) (.int i) (.int j) Q := od_I0 op_and q
theorem od_or (q : Q (.int (Builtin.bitOr i j))) : OpD X c (binaryOp .BitOr) (.int i) (.int j) Q := od_I0 op_or q
theorem od_xor (q : Q (.int (Builtin.bitXor i j))) : OpD X c (binaryOp .BitXor) (.int i) (.int j) Q := od_I0 op_xor q
theorem od_lt (q : Q (.bool (decide (i < j)))) : OpD X c (compareOp .Lt) (.int i) (.int j) Q := od_B0 op_lt q
theorem od_le (q : Q (.bool (decide (i ≤ j)))) : OpD X c (compareOp .LtE) (.int i) (.int j) Q := od_B0 op_le q
theorem od_gt (q : Q (.bool (decide (j < i)))) : OpD X c (compareOp .Gt) (.int i) (.int j) Q := od_B0 op_gt q
theorem od_ge (q : Q (.bool (decide (j ≤ i)))) : OpD X c (compareOp .GtE) (.int i) (.int j) Q := od_B0 op_ge q
theorem od_eqI (q : Q (.bool (decide (i = j)))) : OpD X c (compareOp .Eq) (.int i) (.int j) Q :=
  ⟨_, op_eq, fun _ _ G H v1 v2 s h1 h2 => by cases h1; cases h2; exact ⟨rfl, G, _, s.refl, .bl _, by rw [dec_int, Bool.beq_eq_decide_eq]; exact q⟩⟩
theorem od_neI (q : Q (.bool (!decide (i = j)))) : OpD X c (compareOp .NotEq) (.int i) (.int j) Q :=
  ⟨_, op_ne, fun _ _ G H v1 v2 s h1 h2 => by cases h1; cases h2; exact ⟨rfl, G, _, s.refl, .bl _, by rw [dec_int, Bool.beq_eq_decide_eq]; exact q⟩⟩
theorem od_eqS {i j : Str} (q : Q (.bool (decide (i = j)))) : OpD X c (compareOp .Eq) (.str i) (.str j) Q :=
  ⟨_, op_eq, fun _ _ G H v1 v2 s h1 h2 => by cases h1; cases h2; exact ⟨rfl, G, _, s.refl, .bl _, by rw [dec_str, Bool.beq_eq_decide_eq]; exact q⟩⟩
theorem od_neS {i j : Str} (q : Q (.bool (!decide (i = j)))) : OpD X c (compareOp .NotEq) (.str i) (.str j) Q :=
  ⟨_, op_ne, fun _ _ G H v1 v2 s h1 h2 => by cases h1; cases h2; exact ⟨rfl, G, _, s.refl, .bl _, by rw [dec_str, Bool.beq_eq_decide_eq]; exact q⟩⟩
theorem od_eqB {i j : Bool} (q : Q (.bool (decide (i = j)))) : OpD X c (compareOp .Eq) (.bool i) (.bool j) Q :=
  ⟨_, op_eq, fun _ _ G H v1 v2 s h1 h2 => by cases h1; cases h2; exact ⟨rfl, G, _, s.refl, .bl _, by rw [dec_bl, Bool.beq_eq_decide_eq]; exact q⟩⟩
theorem od_neB {i j : Bool} (q : Q (.bool (!decide (i = j)))) : OpD X c (compareOp .NotEq) (.bool i) (.bool j) Q :=
  ⟨_, op_ne, fun _ _ G H v1 v2 s h1 h2 => by cases h1; cases h2; exact ⟨rfl, G, _, s.refl, .bl _, by rw [dec_bl, Bool.beq_eq_decide_eq]; exact q⟩⟩
/-- data of any depth -/
theorem od_eqD {d1 d2 : PyData} (hu : X.A.units + 64 < cLine) (s1 : SeqAt.shaped d1 = true) (s2 : SeqAt.shaped d2 = true) (q : Q (.bool (PyData.eqv d1 d2))) : OpD X c (compareOp .Eq) d1 d2 Q :=
  ⟨_, op_eqD hu, fun _ _ G H v1 v2 s h1 h2 => ⟨d1, d2, C.mono s h1, C.mono s h2, s1, s2, G, _, s.refl, .bl _, q⟩⟩
where C.mono {G H Gs Hs : Hp} {v : V} {d : PyData} (s : Stp X.K c.pa Gs Hs G H) (h : Dp X.K G v d) : Dp X.K H v d := dp_up s.sub d h
def isNon : PyData → Bool
  | .none => true
  | _ => false
theorem od_isN {d : PyData} (q : Q (.bool (isNon d))) : OpD X c (compareOp .Is) d .none Q :=
  ⟨_, op_isN, fun _ _ G H v1 v2 s h1 h2 => ⟨dp_non h2, G, _, s.refl, .bl _, by
    have e : decide (v1 = V.non) = isNon d := by
      cases h1 <;> simp [isNon]
    rw [e]; exact q⟩⟩
/-! ### one place, truth, and, or, not -/
def UnD (X : Cx) (c : Ct) (f : Value → Sem Value) (d1 : PyData) (Q : PyData → Prop) : Prop := ∃ r, UnR X f r ∧
  ∀ Gs Hs G H v1, Stp X.K c.pa Gs Hs G H → Dp X.K G v1 d1 → r v1 H fun v H' => ∃ G' d, Stp X.K c.pa G H G' H' ∧ Dp X.K G' v d ∧ Q d
theorem we_un {op : UnaryOp} (h : WE X c a A fun d1 => UnD X c (unaryOp op) d1 Q) : WE X c (.UnaryOp op a pos) A Q := fun G ps σ H S pins s I =>
  UnaryOp_ (thn (h G ps σ H S pins s I) fun v s1 ⟨x, H1, I1, r1, G1, d1, st1, z1, r, ho, q⟩ => thn (ho pins s1 σ H1 x v _ I1 r1 (q G H G1 H1 x st1 z1)) fun _ _ ⟨v', H', I', r', G', d, st', dd, qq⟩ => ⟨v', H', I', r', G', d, st1.trans st', dd, qq⟩)
theorem ud_neg (q : Q (.int (-i))) : UnD X c (unaryOp .USub) (.int i) Q := ⟨_, un_neg, fun _ _ G H v1 s h1 => ⟨i, dp_int h1, G, _, s.refl, .int _, q⟩⟩
theorem we_not (h : WE X c a A fun d => ∃ k, d = .bool k ∧ Q (.bool (!k))) : WE X c (.UnaryOp .Not a pos) A Q := fun G ps σ H S =>
  wE_of (pe_not pe_w) (wE_mono (h G ps σ H S) fun v H' ⟨G', d, s, r, k, e, q⟩ => by subst e; exact ⟨k, dp_bl r, G', _, s, .bl _, q⟩)
/-- a value's truth -/
def truD : PyData → Option Bool
  | .none => some false
  | .bool b => some b
  | .int i => some (i != 0)
  | .list ds => some (!ds.isEmpty)
  | .tuple ds => some (!ds.isEmpty)
  | _ => none
theorem tru_of {K : PySem.W.Frag} {G H : Hp} {v : V} {d : PyData} {k : Bool} (s : Ex G H) (h : Dp K G v d) (t : truD d = some k) : TruV K v H k := by
  have emp : ∀ {xs : List V} {ds : List PyData}, DpAll K G xs ds → xs.isEmpty = ds.isEmpty := fun h => by cases h <;> rfl
  cases h with
  | non => exact (Option.some.inj t).symm
  | bl b => exact (Option.some.inj t).symm
  | int i => exact (Option.some.inj t).symm
  | str x => cases t
  | lst a b => exact .inl ⟨_, Evl.ex_l s a, by rw [emp b]; exact (Option.some.inj t).symm⟩
  | tup a b => exact .inr (.inl ⟨_, Evl.ex_t s a, by rw [emp b]; exact (Option.some.inj t).symm⟩)
theorem wt_val {Q : Bool → Prop} (h : WE X c a A fun d => ∃ k, truD d = some k ∧ Q k) (he : ∀ whole, isTrue a X.env whole = (do let v ← whole; standAt a.pos; holding [v] (truthy v)) := by intro _; rfl) : WT X c a A Q := fun G ps σ H S =>
  wT_of (pt_truth pe_w he) (wE_mono (h G ps σ H S) fun v H' ⟨G', d, s, r, k, e, q⟩ => ⟨k, tru_of s.sub r e, G', s, q⟩)
def wW (X : Cx) (e : Expr) : TT := fun σ H Q => ∀ (whole : Sem Value) pins s, Inv X pins σ H s → wpAny (model X.prog X.w) X.A (isTrue e X.env whole) (TP X pins σ Q) X.xe s
def WW (X : Cx) (c : Ct) (e : Expr) (A : AS) (Q : Bool → Prop) : Prop := ∀ G ps σ H, St X.K c A G ps σ H → wW X e σ H fun b H' => ∃ G', Stp X.K c.pa G H G' H' ∧ Q b
theorem pw_w : PW X e (wW X e) := ⟨fun wh pins s _ _ _ I h => h wh pins s I⟩
theorem wW_of {tt : TT} {σ : L2.St} {H : Hp} {Q : Bool → Hp → Prop} (h : PW X e tt) (q : tt σ H Q) : wW X e σ H Q := fun wh pins s I => h.run wh pins s σ H Q I q
theorem wW_mono {σ : L2.St} {H : Hp} {Q Q' : Bool → Hp → Prop} (h : wW X e σ H Q) (k : ∀ v H', Q v H' → Q' v H') : wW X e σ H Q' := fun wh pins s I =>
  thn (h wh pins s I) fun u s' ⟨H', I', q⟩ => ⟨H', I', k _ H' q⟩
theorem wt_ww {Q : Bool → Prop} (h : WW X c e A Q) : WT X c e A Q := fun G ps σ H S => wT_of (PW.pt pw_w) (h G ps σ H S)
theorem ww_and1 {Q : Bool → Prop} (h : WT X c a A Q) : WW X c (.BoolOp .And [a] pos) A Q := fun G ps σ H S => wW_of (pw_and1 pt_w) (h G ps σ H S)
theorem ww_or1 {Q : Bool → Prop} (h : WT X c a A Q) : WW X c (.BoolOp .Or [a] pos) A Q := fun G ps σ H S => wW_of (pw_or1 pt_w) (h G ps σ H S)
theorem ww_and {Q : Bool → Prop} {rest : List Expr} (h : WT X c a A fun k => (k = true → WW X c (.BoolOp .And (b :: rest) pos) A Q) ∧ (k = false → Q false)) : WW X c (.BoolOp .And (a :: b :: rest) pos) A Q := fun G ps σ H S =>
  wW_of (pw_and pt_w pw_w) (wT_mono (h G ps σ H S) fun k H' ⟨G', s, q1, q2⟩ => by
    cases k with
    | true => exact iteT (wW_mono (q1 rfl G' ps σ H' (S.step s)) fun _ _ ⟨G2, s2, q⟩ => ⟨G2, s.trans s2, q⟩)
    | false => exact iteF ⟨G', s, q2 rfl⟩)
theorem ww_or {Q : Bool → Prop} {rest : List Expr} (h : WT X c a A fun k => (k = true → Q true) ∧ (k = false → WW X c (.BoolOp .Or (b :: rest) pos) A Q)) : WW X c (.BoolOp .Or (a :: b :: rest) pos) A Q := fun G ps σ H S =>
  wW_of (pw_or pt_w pw_w) (wT_mono (h G ps σ H S) fun k H' ⟨G', s, q1, q2⟩ => by
    cases k with
    | false => exact iteF (wW_mono (q2 rfl G' ps σ H' (S.step s)) fun _ _ ⟨G2, s2, q⟩ => ⟨G2, s.trans s2, q⟩)
    | true => exact iteT ⟨G', s, q1 rfl⟩)
theorem wt_not {Q : Bool → Prop} (h : WT X c a A fun k => Q (!k)) : WT X c (.UnaryOp .Not a pos) A Q := fun G ps σ H S =>
  wT_of (pt_not pt_w) (wT_mono (h G ps σ H S) fun k H' ⟨G', s, q⟩ => ⟨G', s, q⟩)
/-- and, or of bools as values -/
theorem we_and1 {op} (h : WE X c a A Q) : WE X c (.BoolOp op [a] pos) A Q := fun G ps σ H S => wE_of (pe_one pe_w) (h G ps σ H S)
theorem we_and {rest : List Expr} (h : WE X c a A fun d => ∃ k, d = .bool k ∧ (k = true → WE X c (.BoolOp .And (b :: rest) pos) A Q) ∧ (k = false → Q (.bool false))) : WE X c (.BoolOp .And (a :: b :: rest) pos) A Q := fun G ps σ H S =>
  wE_of (pe_and pe_w pe_w) (wE_mono (h G ps σ H S) fun v H' ⟨G', d, s, r, k, e, q1, q2⟩ => ⟨k, by subst e; exact dp_bl r, by
    cases k with
    | true => exact iteT (wE_mono (q1 rfl G' ps σ H' (S.step s)) fun _ _ ⟨G2, d2, s2, q⟩ => ⟨G2, d2, s.trans s2, q⟩)
    | false => exact iteF ⟨G', _, s, .bl _, q2 rfl⟩⟩)
theorem we_or {rest : List Expr} (h : WE X c a A fun d => ∃ k, d = .bool k ∧ (k = true → Q (.bool true)) ∧ (k = false → WE X c (.BoolOp .Or (b :: rest) pos) A Q)) : WE X c (.BoolOp .Or (a :: b :: rest) pos) A Q := fun G ps σ H S =>
  wE_of (pe_or pe_w pe_w) (wE_mono (h G ps σ H S) fun v H' ⟨G', d, s, r, k, e, q1, q2⟩ => ⟨k, by subst e; exact dp_bl r, by
    cases k with
    | false => exact iteF (wE_mono (q2 rfl G' ps σ H' (S.step s)) fun _ _ ⟨G2, d2, s2, q⟩ => ⟨G2, d2, s.trans s2, q⟩)
    | true => exact iteT ⟨G', _, s, .bl _, q1 rfl⟩⟩)
theorem we_ife {t : Expr} (h : WT X c t A fun k => (k = true → WE X c a A Q) ∧ (k = false → WE X c b A Q)) : WE X c (.IfExp t a b pos) A Q := fun G ps σ H S =>
  wE_of (pe_ifExp pt_w pe_w pe_w) (wT_mono (h G ps σ H S) fun k H' ⟨G', s, q1, q2⟩ => by
    cases k with
    | true => exact iteT (wE_mono (q1 rfl G' ps σ H' (S.step s)) fun _ _ ⟨G2, d2, s2, q⟩ => ⟨G2, d2, s.trans s2, q⟩)
    | false => exact iteF (wE_mono (q2 rfl G' ps σ H' (S.step s)) fun _ _ ⟨G2, d2, s2, q⟩ => ⟨G2, d2, s.trans s2, q⟩))

/-! ### subscripts -/
theorem at_ok {K : PySem.W.Frag} {G : Hp} {xs : List V} {ds : List PyData} {i : Int} {d : PyData} (ha : DpAll K G xs ds) (ea : atI ds i = some d) : ∃ w, atI xs i = some w ∧ Dp K G w d := by
  unfold atI at ea ⊢
  rw [dall_len ha]
  cases q : ixN ds.length i with
  | none => rw [q] at ea; cases ea
  | some j =>
    rw [q] at ea
    exact dall_get ha ea
theorem we_ixT (h : WE X c a A fun d1 => WE X c b A fun d2 => ∃ ds i d, d1 = .tuple ds ∧ d2 = .int i ∧ atI ds i = some d ∧ Q d) (hp : PlainIx b := by intro _ _; rfl) : WE X c (.Subscript a b pos) A Q := fun G ps σ H S =>
  wE_of (pe_ix ix_tup pe_w pe_w hp) (wE_mono (h G ps σ H S) fun v1 H1 ⟨G1, d1, s1, r1, q1⟩ => wE_mono (q1 G1 ps σ H1 (S.step s1)) fun v2 H2 ⟨G2, d2, s2, r2, ds, i, d, e1, e2, ea, q⟩ => by
    subst e1; subst e2
    obtain ⟨p, xs, rfl, hs, ha⟩ := dp_tup r1
    obtain ⟨w, hw, rw'⟩ := at_ok ha ea
    exact ⟨p, xs, i, w, rfl, dp_int r2, Evl.ex_t (fun b o z => s2.sub b o (s2.ex b o z)) hs, hw, G2, d, s1.trans s2, dp_up s2.ex d rw', q⟩)
theorem we_ixL (h : WE X c a A fun d1 => WE X c b A fun d2 => ∃ ds i d, d1 = .list ds ∧ d2 = .int i ∧ atI ds i = some d ∧ Q d) (hp : PlainIx b := by intro _ _; rfl) : WE X c (.Subscript a b pos) A Q := fun G ps σ H S =>
  wE_of (pe_ix ix_list pe_w pe_w hp) (wE_mono (h G ps σ H S) fun v1 H1 ⟨G1, d1, s1, r1, q1⟩ => wE_mono (q1 G1 ps σ H1 (S.step s1)) fun v2 H2 ⟨G2, d2, s2, r2, ds, i, d, e1, e2, ea, q⟩ => by
    subst e1; subst e2
    obtain ⟨p, xs, rfl, hs, ha⟩ := dp_list r1
    obtain ⟨w, hw, rw'⟩ := at_ok ha ea
    exact ⟨p, xs, i, w, rfl, dp_int r2, Evl.ex_l (fun b o z => s2.sub b o (s2.ex b o z)) hs, hw, G2, d, s1.trans s2, dp_up s2.ex d rw', q⟩)
theorem we_ixS (h : WE X c a A fun d1 => WE X c b A fun d2 => ∃ z i k, d1 = .str z ∧ d2 = .int i ∧ z.length ≤ 100000 ∧ atI z.cps.toList i = some k ∧ Q (.str ⟨#[k]⟩)) (hp : PlainIx b := by intro _ _; rfl) : WE X c (.Subscript a b pos) A Q := fun G ps σ H S =>
  wE_of (pe_ix ix_str pe_w pe_w hp) (wE_mono (h G ps σ H S) fun v1 H1 ⟨G1, d1, s1, r1, q1⟩ => wE_mono (q1 G1 ps σ H1 (S.step s1)) fun v2 H2 ⟨G2, d2, s2, r2, z, i, k, e1, e2, hz, ea, q⟩ => by
    subst e1; subst e2
    exact ⟨z, i, k, dp_str r1, dp_int r2, Evl.sz_of hz, ea, G2, _, s1.trans s2, .str _, q⟩)
/-- a subscript, whatever the kind -/
def IxD (d1 d2 : PyData) (Q : PyData → Prop) : Prop := match d1, d2 with
  | .tuple ds, .int i => ∃ d, atI ds i = some d ∧ Q d
  | .list ds, .int i => ∃ d, atI ds i = some d ∧ Q d
  | .str z, .int i => ∃ k, z.length ≤ 100000 ∧ atI z.cps.toList i = some k ∧ Q (.str ⟨#[k]⟩)
  | _, _ => False
theorem we_ix (h : WE X c a A fun d1 => WE X c b A fun d2 => IxD d1 d2 Q) (hp : PlainIx b := by intro _ _; rfl) : WE X c (.Subscript a b pos) A Q := fun G ps σ H S =>
  wE_of (pe_ix (IxR.or (IxR.or ix_list ix_tup) ix_str) pe_w pe_w hp) (wE_mono (h G ps σ H S) fun v1 H1 ⟨G1, d1, s1, r1, q1⟩ => wE_mono (q1 G1 ps σ H1 (S.step s1)) fun v2 H2 ⟨G2, d2, s2, r2, q⟩ => by
    have up : Ex G1 H2 := fun b o z => s2.sub b o (s2.ex b o z)
    cases d2 with
    | int i =>
      cases d1 with
      | list ds =>
        obtain ⟨d, ea, q⟩ := q
        obtain ⟨p, xs, rfl, hs, ha⟩ := dp_list r1
        obtain ⟨w, hw, rw'⟩ := at_ok ha ea
        exact .inl (.inl ⟨p, xs, i, w, rfl, dp_int r2, Evl.ex_l up hs, hw, G2, d, s1.trans s2, dp_up s2.ex d rw', q⟩)
      | tuple ds =>
        obtain ⟨d, ea, q⟩ := q
        obtain ⟨p, xs, rfl, hs, ha⟩ := dp_tup r1
        obtain ⟨w, hw, rw'⟩ := at_ok ha ea
        exact .inl (.inr ⟨p, xs, i, w, rfl, dp_int r2, Evl.ex_t up hs, hw, G2, d, s1.trans s2, dp_up s2.ex d rw', q⟩)
      | str z =>
        obtain ⟨k, hz, ea, q⟩ := q
        exact .inr ⟨z, i, k, dp_str r1, dp_int r2, Evl.sz_of hz, ea, G2, _, s1.trans s2, .str _, q⟩
      | _ => exact False.elim q
    | _ => cases d1 <;> exact False.elim q)

/-! ### arguments, displays -/
theorem wa_imp {Q Q' : List AV → Prop} (h : WA X c es A Q) (k : ∀ d, Q d → Q' d) : WA X c es A Q' := fun G ps σ H S =>
  wA_mono (h G ps σ H S) fun _ _ ⟨G', d, s, r, q⟩ => ⟨G', d, s, r, k d q⟩
theorem wa_nil {Q : List AV → Prop} (q : Q []) : WA X c [] A Q := fun G ps σ H S => wA_of pa_nil ⟨G, [], S.refl, True.intro, q⟩
theorem wa_cons {Q : List AV → Prop} (h : WE X c e A fun d => WA X c es A fun as => Q (.dat d :: as)) (hs : starEach (e :: es) X.env = (false, eval e X.env) :: starEach es X.env := by rfl) : WA X c (e :: es) A Q := fun G ps σ H S =>
  wA_of (pa_cons pe_w pa_w hs) (wE_mono (h G ps σ H S) fun v H1 ⟨G1, d, s1, r1, q1⟩ => wA_mono (q1 G1 ps σ H1 (S.step s1)) fun vs H2 ⟨G2, as, s2, r2, q⟩ => ⟨G2, .dat d :: as, s1.trans s2, ⟨dp_up s2.ex d r1, r2⟩, q⟩)
theorem wa_pool {Q : List AV → Prop} {x : Str} {i : Nat} (hρ : A.ρ[i]? = some .pool) (h : WA X c es A fun as => Q (.pool :: as)) (hN : X.N[i]? = some x := by rfl) (hv : Vis X.env.scope x := by first | exact Or.inl rfl | exact Or.inr (Or.inl rfl) | exact Or.inr (Or.inr rfl))
    (hd : (x == ("__debug__" : Str)) = false := by decide) (hcd : (x == ("__classdict__" : Str)) = false := by decide) (hs : starEach (.Name x pos :: es) X.env = (false, eval (.Name x pos) X.env) :: starEach es X.env := by rfl) : WA X c (.Name x pos :: es) A Q := fun G ps σ H S => by
  obtain ⟨p, h1, h2⟩ := S.sl i _ hρ
  exact wA_of (pa_cons (pe_var hN hv hd hcd) pa_w hs) ⟨.ref p, h2, wA_mono (h G ps σ H S) fun vs H2 ⟨G2, as, s2, r2, q⟩ => ⟨G2, .pool :: as, s2, ⟨⟨p, h1, rfl⟩, r2⟩, q⟩⟩
/-- the data among arguments -/
def dats : List AV → Option (List PyData)
  | [] => some []
  | .dat d :: as => match dats as with
    | some r => some (d :: r)
    | none => none
  | .pool :: _ => none
theorem dats_ok {K : PySem.W.Frag} {pa : Option Addr} {G : Hp} : ∀ {vs : List V} {as : List AV} {ds : List PyData}, AsOk K pa G vs as → dats as = some ds → DpAll K G vs ds
  | [], [], _, _, e => by
    have e' := Option.some.inj e
    subst e'
    exact .nil
  | v :: vs, .dat d :: as, ds, ⟨h, t⟩, e => by
    cases q : dats as with
    | none => rw [dats, q] at e; cases e
    | some r =>
      rw [dats, q] at e
      have e' := Option.some.inj e
      subst e'
      exact .cons h (dats_ok t q)
  | _ :: _, .pool :: _, _, _, e => by cases e
theorem we_tup {x1} (h : WA X c es A fun as => ∃ ds, dats as = some ds ∧ ds.length ≤ 100000 ∧ Q (.tuple ds)) : WE X c (.Tuple es x1 pos) A Q := fun G ps σ H S =>
  wE_of (pe_tup pa_w) (wA_mono (h G ps σ H S) fun vs H1 ⟨G1, as, s1, r1, ds, e, hz, q⟩ => ⟨by rw [dall_len (dats_ok r1 e)]; exact Evl.sz_of hz, fun p hp =>
    have n := s1.new (o := .tup vs) hp
    ⟨_, _, s1.trans n, .tup (.inl (.inl upd_same)) (dp_upAll n.ex _ (dats_ok r1 e)), q⟩⟩)
theorem wl_lst {Q : List PyData → Prop} (h : WA X c es A fun as => ∃ ds, dats as = some ds ∧ ds.length ≤ 100000 ∧ Q ds) : WL X c (.List es pos) A Q := fun G ps σ H S =>
  wE_of (pe_lst pa_w) (wA_mono (h G ps σ H S) fun vs H1 ⟨G1, as, s1, r1, ds, e, hz, q⟩ => ⟨by rw [dall_len (dats_ok r1 e)]; exact Evl.sz_of hz, fun p hp =>
    have n := s1.lay (o := .lst vs) hp
    have hg : G1 p = none := Evl.fresh_back s1.sub hp
    ⟨G1, ds, s1.trans n, ⟨p, vs, rfl, by
      cases q2 : H p with
      | none => rfl
      | some o => exact absurd hp (s1.live p (by rw [q2]; exact fun z => nomatch z)), hg, upd_same, dats_ok r1 e⟩, q⟩⟩)
/-- a new list that will not change -/
theorem we_of_wl (h : WL X c e A fun ds => Q (.list ds)) : WE X c e A Q := fun G ps σ H S =>
  wE_mono (h G ps σ H S) fun v H1 ⟨G1, ds, s1, ⟨p, xs, e1, h0, hg, h1, hd⟩, q⟩ => by
    subst e1
    have f := s1.frz h0 hg h1
    exact ⟨_, _, f, .lst (.inl (.inl upd_same)) (dp_upAll (Ex.new hg) _ hd), q⟩
end
end Eng

set_option Elab.async false
set_option linter.all false
set_option maxRecDepth 100000
set_option maxHeartbeats 2000000
namespace Eng
open PySem PySem.Spec PyProof.Rows L2
open Evl (Ex)
section
variable {X : Cx} {c : Ct} {A : AS} {e a b : Expr} {es : List Expr} {pos p : Pos} {Q : PyData → Prop}

/-! ### calls of built-ins and of methods, by data -/
def cW (X : Cx) (f : Value) : List V → Hp → VK → Prop := fun vs H Q => ∀ pins s σ us, Inv X pins σ H s → Vals vs us → wpAny (model X.prog X.w) X.A (call f us) (EP X pins σ Q) X.xe s
theorem cW_ok {f : Value} : CallR X f (cW X f) := fun pins s σ _ _ us _ I r h => h pins s σ us I r
def mW (X : Cx) (id : String) : V → List V → Hp → VK → Prop := fun x vs H Q => ∀ pins s σ v us, Inv X pins σ H s → RelV x v → Vals vs us → wpAny (model X.prog X.w) X.A (call (.builtin id) (v :: us)) (EP X pins σ Q) X.xe s
theorem mW_ok {id : String} : MtR X id (mW X id) := fun pins s σ _ _ _ v us _ I rx r h => h pins s σ v us I rx r
def CalD (X : Cx) (c : Ct) (f : Value) (ds : List PyData) (Q : PyData → Prop) : Prop := ∃ r, CallR X f r ∧
  ∀ Gs Hs G H vs, Stp X.K c.pa Gs Hs G H → DpAll X.K G vs ds → r vs H fun v H' => ∃ G' d, Stp X.K c.pa G H G' H' ∧ Dp X.K G' v d ∧ Q d
def CalL (X : Cx) (c : Ct) (f : Value) (ds : List PyData) (Q : List PyData → Prop) : Prop := ∃ r, CallR X f r ∧
  ∀ Gs Hs G H vs, Stp X.K c.pa Gs Hs G H → DpAll X.K G vs ds → r vs H fun v H' => ∃ G' es, Stp X.K c.pa G H G' H' ∧ ROk X.K G' H H' v (.L es) ∧ Q es
theorem ROk.back {K : PySem.W.Frag} {G H0 H H' : Hp} {v : V} {es : List PyData} (h : ROk K G H H' v (.L es)) (l : ∀ b, H0 b ≠ none → H b ≠ none) : ROk K G H0 H' v (.L es) := by
  obtain ⟨p, xs, h1, h2, h3⟩ := h
  refine ⟨p, xs, h1, ?_, h3⟩
  cases q : H0 p with
  | none => rfl
  | some o => exact absurd h2 (l p (by rw [q]; exact fun z => nomatch z))
theorem we_blt {id : String} {x : Str} (hm : X.mg x = none) (h : WA X c (e :: es) A fun as => ∃ ds, dats as = some ds ∧ CalD X c (.builtin id) ds Q) (hv : bootBuiltins x = some (.builtin id) := by decide +kernel) (hg : Gl X x := by rfl)
    (hn : x ≠ "__name__" := by decide) (hdb : (x == ("__debug__" : Str)) = false := by decide) (he : starEach (e :: es) X.env = (false, eval e X.env) :: starEach es X.env := by rfl) (hpl : (backTo pos (starEach es X.env)).any (·.1) = false := by rfl) :
    WE X c (.Call (.Name x p) (e :: es) [] pos) A Q := fun G ps σ H S =>
  wE_of (pe_callB cW_ok hg hm hv pa_w hn hdb he hpl) (wA_mono (h G ps σ H S) fun vs H1 ⟨G1, as, s1, r1, ds, ed, r, hr, q⟩ => fun pins s σ us I rv =>
    thn (hr pins s σ H1 vs us _ I rv (q G H G1 H1 vs s1 (dats_ok r1 ed))) fun _ _ ⟨v', H', I', r', G', d, st', dd, qq⟩ => ⟨v', H', I', r', G', d, s1.trans st', dd, qq⟩)
theorem we_ty {T : String} {x : Str} (hm : X.mg x = none) (h : WA X c (e :: es) A fun as => ∃ ds, dats as = some ds ∧ CalD X c (.type T) ds Q) (hv : bootBuiltins x = some (.type T) := by decide +kernel) (hg : Gl X x := by rfl)
    (hn : x ≠ "__name__" := by decide) (hdb : (x == ("__debug__" : Str)) = false := by decide) (he : starEach (e :: es) X.env = (false, eval e X.env) :: starEach es X.env := by rfl) (hpl : (backTo pos (starEach es X.env)).any (·.1) = false := by rfl) :
    WE X c (.Call (.Name x p) (e :: es) [] pos) A Q := fun G ps σ H S =>
  wE_of (pe_callTy cW_ok hg hm hv pa_w hn hdb he hpl) (wA_mono (h G ps σ H S) fun vs H1 ⟨G1, as, s1, r1, ds, ed, r, hr, q⟩ => fun pins s σ us I rv =>
    thn (hr pins s σ H1 vs us _ I rv (q G H G1 H1 vs s1 (dats_ok r1 ed))) fun _ _ ⟨v', H', I', r', G', d, st', dd, qq⟩ => ⟨v', H', I', r', G', d, s1.trans st', dd, qq⟩)
theorem wl_ty {T : String} {x : Str} {Q : List PyData → Prop} (hm : X.mg x = none) (h : WA X c (e :: es) A fun as => ∃ ds, dats as = some ds ∧ CalL X c (.type T) ds Q) (hv : bootBuiltins x = some (.type T) := by decide +kernel) (hg : Gl X x := by rfl)
    (hn : x ≠ "__name__" := by decide) (hdb : (x == ("__debug__" : Str)) = false := by decide) (he : starEach (e :: es) X.env = (false, eval e X.env) :: starEach es X.env := by rfl) (hpl : (backTo pos (starEach es X.env)).any (·.1) = false := by rfl) :
    WL X c (.Call (.Name x p) (e :: es) [] pos) A Q := fun G ps σ H S =>
  wE_of (pe_callTy cW_ok hg hm hv pa_w hn hdb he hpl) (wA_mono (h G ps σ H S) fun vs H1 ⟨G1, as, s1, r1, ds, ed, r, hr, q⟩ => fun pins s σ us I rv =>
    thn (hr pins s σ H1 vs us _ I rv (q G H G1 H1 vs s1 (dats_ok r1 ed))) fun _ _ ⟨v', H', I', r', G', d, st', dd, qq⟩ => ⟨v', H', I', r', G', d, s1.trans st', dd.back s1.live, qq⟩)
theorem cd_lenL {ds : List PyData} (q : Q (.int ds.length)) : CalD X c (.builtin "len") [.list ds] Q := ⟨_, call_len_seq, fun _ _ G H vs s h => by
  cases h with
  | cons h1 h2 =>
    cases h2
    obtain ⟨p, xs, rfl, hs, ha⟩ := dp_list h1
    exact ⟨p, xs, rfl, .inl (Evl.ex_l s.sub hs), G, _, s.refl, .int _, by rw [dall_len ha]; exact q⟩⟩
theorem cd_lenT {ds : List PyData} (q : Q (.int ds.length)) : CalD X c (.builtin "len") [.tuple ds] Q := ⟨_, call_len_seq, fun _ _ G H vs s h => by
  cases h with
  | cons h1 h2 =>
    cases h2
    obtain ⟨p, xs, rfl, hs, ha⟩ := dp_tup h1
    exact ⟨p, xs, rfl, .inr (Evl.ex_t s.sub hs), G, _, s.refl, .int _, by rw [dall_len ha]; exact q⟩⟩
theorem cd_int {i : Int} (q : Q (.int i)) : CalD X c (.type "int") [.int i] Q := ⟨_, call_int1, fun _ _ G H vs s h => by
  cases h with
  | cons h1 h2 =>
    cases h2
    cases h1
    exact .inl ⟨i, rfl, G, _, s.refl, .int _, q⟩⟩
theorem cl_list {ds : List PyData} {Q : List PyData → Prop} (q : Q ds) : CalL X c (.type "list") [.list ds] Q := ⟨_, call_list_of, fun _ _ G H vs s h => by
  cases h with
  | cons h1 h2 =>
    cases h2
    obtain ⟨p, xs, rfl, hs, ha⟩ := dp_list h1
    exact ⟨p, xs, rfl, .inl (Evl.ex_l s.sub hs), fun l hl => ⟨G, ds, s.lay hl, ⟨l, xs, rfl, hl, Evl.fresh_back s.sub hl, upd_same, ha⟩, q⟩⟩⟩
theorem cl_listT {ds : List PyData} {Q : List PyData → Prop} (q : Q ds) : CalL X c (.type "list") [.tuple ds] Q := ⟨_, call_list_of, fun _ _ G H vs s h => by
  cases h with
  | cons h1 h2 =>
    cases h2
    obtain ⟨p, xs, rfl, hs, ha⟩ := dp_tup h1
    exact ⟨p, xs, rfl, .inr (Evl.ex_t s.sub hs), fun l hl => ⟨G, ds, s.lay hl, ⟨l, xs, rfl, hl, Evl.fresh_back s.sub hl, upd_same, ha⟩, q⟩⟩⟩
/-- the type of data, and isinstance -/
def tyD : PyData → Option String
  | .none => some "NoneType" | .bool _ => some "bool" | .int _ => some "int" | .str _ => some "str" | .list _ => some "list" | .tuple _ => some "tuple" | .dict _ => none
theorem tyX_of {K : PySem.W.Frag} {G H : Hp} {v : V} {d : PyData} {T : String} (s : Ex G H) (h : Dp K G v d) (t : tyD d = some T) : TyX K H v (.type T) := by
  cases h with
  | non => cases t; exact .base .non
  | bl b => cases t; exact .base (.bl b)
  | int b => cases t; exact .base (.int b)
  | str b => cases t; exact .base (.str b)
  | lst a b =>
    cases t
    rcases a with (a | ⟨o, a⟩) | ⟨o, its, n, a, b, _⟩
    · exact .base (.lst (s _ _ a))
    · exact .base (.frz (s _ _ a))
    · exact .kList a b
  | tup a b =>
    cases t
    rcases a with (a | ⟨o, a⟩) | ⟨o, its, n, a, b, _⟩
    · exact .base (.tup (s _ _ a))
    · exact .fTuple (s _ _ a)
    · exact .kTuple a b
/-! ### own defs -/
abbrev DSpec := List AV → (RV → Prop) → Prop
def lift (K : PySem.W.Frag) (n : Nat) (sp : DSpec) : Sp := fun vs H Q _ => ∃ (G : Hp) (pa : Option Addr) (as : List AV), Stp K pa G H G H ∧ AsOk K pa G vs as ∧ as.length = n ∧ sp as fun r => ∀ v G2 H2, Stp K pa G H G2 H2 → ROk K G2 H H2 v r → Q v H2
structure Callee (P : Program) (w : World) (K : PySem.W.Frag) (mg : Str → Option Value) (base : Heap) (lev : Nat) (x : Str) (n : Nat) (sp : DSpec) : Prop where
  ex : ∃ f fd ps, FnOk P w K mg base CX0 lev f fd ps (lift K n sp) ∧ mg x = some (.ref f) ∧ PySem.W.keepIn K (.ref f) = true ∧ Binds K fd ps []
  mono : ∀ as Q Q', (∀ r, Q r → Q' r) → sp as Q → sp as Q'
theorem frz_ok {K : PySem.W.Frag} {pa : Option Addr} {G H G2 H2 : Hp} {v : V} {r : RV} (s : Stp K pa G H G2 H2) (h : ROk K G2 H H2 v r) : ∃ G3, Stp K pa G H G3 H2 ∧ Dp K G3 v r.frz := by
  cases r with
  | D d => exact ⟨G2, s, h⟩
  | L ds =>
    obtain ⟨p, xs, rfl, h0, hg, h1, hd⟩ := h
    exact ⟨_, s.frz h0 hg h1, .lst (.inl (.inl upd_same)) (dp_upAll (Ex.new hg) _ hd)⟩
theorem we_call {x : Str} {n lev : Nat} {sp : DSpec} (C : Callee X.prog X.w X.K X.mg X.base lev x n sp) (hr : Room lev X.A) (h : WA X c (e :: es) A fun as => as.length = n ∧ sp as fun r => Q r.frz) (hg : Gl X x := by rfl)
    (hdb : (x == ("__debug__" : Str)) = false := by decide) (he : starEach (e :: es) X.env = (false, eval e X.env) :: starEach es X.env := by rfl) (hpl : (backTo pos (starEach es X.env)).any (·.1) = false := by rfl) : WE X c (.Call (.Name x p) (e :: es) [] pos) A Q := fun G ps σ H S => by
  obtain ⟨f, fd, pr, F, hm, hk, hb⟩ := C.ex
  refine wE_of (pe_call F hr hg hm hk hb .nil pass0 pa_w hdb he hpl) (wA_mono (h G ps σ H S) fun vs H1 ⟨G1, as, s1, r1, hl, q⟩ => ?_)
  rw [List.append_nil]
  refine ⟨G1, c.pa, as, s1.refl, r1, hl, C.mono as _ _ (fun r qr v G2 H2 s2 hv => ?_) q⟩
  obtain ⟨G3, s3, hd⟩ := frz_ok s2 hv
  exact ⟨G3, _, s1.trans s3, hd, qr⟩
theorem wl_call {x : Str} {n lev : Nat} {sp : DSpec} {Q : List PyData → Prop} (C : Callee X.prog X.w X.K X.mg X.base lev x n sp) (hr : Room lev X.A) (h : WA X c (e :: es) A fun as => as.length = n ∧ sp as fun r => ∃ ds, r = .L ds ∧ Q ds) (hg : Gl X x := by rfl)
    (hdb : (x == ("__debug__" : Str)) = false := by decide) (he : starEach (e :: es) X.env = (false, eval e X.env) :: starEach es X.env := by rfl) (hpl : (backTo pos (starEach es X.env)).any (·.1) = false := by rfl) : WL X c (.Call (.Name x p) (e :: es) [] pos) A Q := fun G ps σ H S => by
  obtain ⟨f, fd, pr, F, hm, hk, hb⟩ := C.ex
  refine wE_of (pe_call F hr hg hm hk hb .nil pass0 pa_w hdb he hpl) (wA_mono (h G ps σ H S) fun vs H1 ⟨G1, as, s1, r1, hl, q⟩ => ?_)
  rw [List.append_nil]
  refine ⟨G1, c.pa, as, s1.refl, r1, hl, C.mono as _ _ (fun r qr v G2 H2 s2 hv => ?_) q⟩
  obtain ⟨ds, rfl, qd⟩ := qr
  exact ⟨G2, ds, s1.trans s2, hv.back s1.live, qd⟩

/-! ### statements -/
variable {st : Stmt} {sts rest : List Stmt} {D : ADs}
theorem wB_mono {D D' : Ends} {σ : L2.St} {H : Hp} (h : wB X sts D σ H) (n : ∀ σ' H', D.nx σ' H' → D'.nx σ' H') (r : ∀ v H', D.rt v H' → D'.rt v H') (b : ∀ σ' H', D.bk σ' H' → D'.bk σ' H') (t : ∀ σ' H', D.ct σ' H' → D'.ct σ' H') : wB X sts D' σ H := fun pins s I =>
  thn (h pins s I) fun f s' q => by
    cases f with
    | next => obtain ⟨σ', H', I', q⟩ := q; exact ⟨σ', H', I', n _ _ q⟩
    | brk => obtain ⟨σ', H', I', q⟩ := q; exact ⟨σ', H', I', b _ _ q⟩
    | cont => obtain ⟨σ', H', I', q⟩ := q; exact ⟨σ', H', I', t _ _ q⟩
    | ret u => obtain ⟨v, σ', H', I', rv, q⟩ := q; exact ⟨v, σ', H', I', rv, r _ _ q⟩
theorem nxt_up {K : PySem.W.Frag} {G G' : Hp} {P : AS → Prop} {σ : L2.St} {H : Hp} (e : Ex G G') (h : nxt K c G' P σ H) : nxt K c G P σ H := by
  obtain ⟨A, G2, ps, e2, S, q⟩ := h
  exact ⟨A, G2, ps, e.trans e2, S, q⟩
theorem wB_up {K : PySem.W.Frag} {G G' : Hp} {σ : L2.St} {H : Hp} (e : Ex G G') (h : wB X sts (ends K c G' D) σ H) : wB X sts (ends K c G D) σ H :=
  wB_mono h (fun _ _ => nxt_up e) (fun _ _ q => q) (fun _ _ => nxt_up e) fun _ _ => nxt_up e
theorem wb_nil (q : D.nx A) : WB X c [] A D := fun G ps σ H S => wB_of pss_nil ⟨A, G, ps, Ex.refl G, S, q⟩
theorem wb_cons (h : WS X c st A { D with nx := fun A' => WB X c rest A' D }) : WB X c (st :: rest) A D := fun G ps σ H S pins s I => by
  refine wpAny_execs_cons (thn (h G ps σ H S pins s I) fun f s1 q => ?_)
  cases f with
  | next =>
    obtain ⟨σ', H', I', A', G', ps', e, S', q⟩ := q
    exact wB_up e (q G' ps' σ' H' S') pins s1 I'
  | ret v => exact q
  | brk => exact q
  | cont => exact q
theorem wb_one (h : WS X c st A D) : WB X c [st] A D := fun G ps σ H S => wB_of (pss_one ps_w) (h G ps σ H S)
theorem ws_asg {i : Nat} {x : Str} {px : Pos} (h : WE X c e A fun d => D.nx ⟨A.ρ.set i (.dat d), A.μ⟩) (hN : X.N[i]? = some x := by rfl) (hnd : X.N.Nodup) (hx : Loc X.env.scope x := by first | exact .inl rfl | exact .inr rfl)
    (hf : X.fn x = true ∨ X.env.scope.names.lookup x = some .local := by first | exact .inl rfl | exact .inr rfl)
    (hs : swapsWithSole [.Name x px] e pos.line X.env = pure false := by rfl) (hw : swappedStores [.Name x px] e X.env = pure none := by rfl) (h1 : (assignEach [.Name x px] X.env).map (·.2) = [assign (.Name x px) X.env] := by rfl) : WS X c (.Assign [.Name x px] e pos) A D := fun G ps σ H S =>
  wS_of (ps_asg pe_w (pg_name hnd hN hx hf) hs hw h1) (wE_mono (h G ps σ H S) fun v H' ⟨G', d, s, r, q⟩ => ⟨_, G', ps, s.ex, (S.step s).put r, q⟩)
theorem ws_asgL {i : Nat} {x : Str} {px : Pos} (h : WL X c e A fun ds => D.nx ⟨A.ρ.set i (.own A.μ.length), A.μ ++ [some ds]⟩) (hN : X.N[i]? = some x := by rfl) (hnd : X.N.Nodup) (hx : Loc X.env.scope x := by first | exact .inl rfl | exact .inr rfl)
    (hf : X.fn x = true ∨ X.env.scope.names.lookup x = some .local := by first | exact .inl rfl | exact .inr rfl)
    (hs : swapsWithSole [.Name x px] e pos.line X.env = pure false := by rfl) (hw : swappedStores [.Name x px] e X.env = pure none := by rfl) (h1 : (assignEach [.Name x px] X.env).map (·.2) = [assign (.Name x px) X.env] := by rfl) : WS X c (.Assign [.Name x px] e pos) A D := fun G ps σ H S =>
  wS_of (ps_asg pe_w (pg_name hnd hN hx hf) hs hw h1) (wE_mono (h G ps σ H S) fun v H' ⟨G', ds, s, ⟨p, xs, e1, h0, hg, hp, hd⟩, q⟩ => by
    subst e1
    have S' := S.step s
    refine ⟨_, G', ps ++ [p], s.ex, S'.putM ?_ (fun hm => absurd h0 (S.new p hm).2) hg hp hd, q⟩
    cases q2 : c.H0 p with
    | none => rfl
    | some o => exact absurd h0 (S.st.live p (by rw [q2]; exact fun z => nomatch z)))
theorem ws_drop (h : WE X c e A fun _ => D.nx A) (hs : swapsWith e none pos.line X.env = pure false := by rfl) : WS X c (.Expr e pos) A D := fun G ps σ H S =>
  wS_of (ps_expr pe_w hs) (wE_mono (h G ps σ H S) fun v H' ⟨G', d, s, r, q⟩ => ⟨_, G', ps, s.ex, S.step s, q⟩)
theorem ws_ret (h : WE X c e A fun d => D.rt (.D d) A) : WS X c (.Return (some e) pos) A D := fun G ps σ H S =>
  wS_of (ps_ret pe_w) (wE_mono (h G ps σ H S) fun v H' ⟨G', d, s, r, q⟩ => ⟨.D d, A, G', ps, σ, S.step s, r, q⟩)
theorem ws_retL (h : WL X c e A fun d => D.rt (.L d) A) : WS X c (.Return (some e) pos) A D := fun G ps σ H S =>
  wS_of (ps_ret pe_w) (wE_mono (h G ps σ H S) fun v H' ⟨G', d, s, r, q⟩ => ⟨.L d, A, G', ps, σ, S.step s, r.back S.st.live, q⟩)
theorem ws_retN (h : D.rt (.D .none) A) : WS X c (.Return none pos) A D := fun G ps σ H S => wS_of ps_retN ⟨.D .none, A, G, ps, σ, S, .non, h⟩
/-- return x, x a list of one's own -/
theorem ws_retO {i k : Nat} {x : Str} {px : Pos} {ds : List PyData} (hρ : A.ρ[i]? = some (.own k)) (hm : A.μ[k]? = some (some ds)) (q : D.rt (.L ds) A) (hN : X.N[i]? = some x := by rfl) (hv : Vis X.env.scope x := by first | exact Or.inl rfl | exact Or.inr (Or.inl rfl) | exact Or.inr (Or.inr rfl))
    (hd : (x == ("__debug__" : Str)) = false := by decide) (hcd : (x == ("__classdict__" : Str)) = false := by decide) : WS X c (.Return (some (.Name x px)) pos) A D := fun G ps σ H S => by
  obtain ⟨p, hp, hs⟩ := S.sl i _ hρ
  obtain ⟨g, xs, hx, ha⟩ := S.mu k p ds hp hm
  exact wS_of (ps_ret (pe_var hN hv hd hcd)) ⟨.ref p, hs, .L ds, A, G, ps, σ, S, ⟨p, xs, rfl, (S.new p (List.mem_of_getElem? hp)).1, g, hx, ha⟩, q⟩
theorem ws_if {t : Expr} {sa sb : List Stmt} (h : WT X c t A fun k => (k = true → WB X c sa A D) ∧ (k = false → WB X c sb A D)) : WS X c (.If t sa sb pos) A D := fun G ps σ H S =>
  wS_of (ps_if pt_w pss_w pss_w) (wT_mono (h G ps σ H S) fun k H' ⟨G', s, q1, q2⟩ => by
    cases k with
    | true => exact iteT (wB_up s.ex (q1 rfl G' ps σ H' (S.step s)))
    | false => exact iteF (wB_up s.ex (q2 rfl G' ps σ H' (S.step s))))
theorem ws_pass (q : D.nx A) : WS X c (.Pass pos) A D := fun G ps σ H S => wS_of ps_pass ⟨A, G, ps, Ex.refl G, S, q⟩
theorem ws_break (q : D.bk A) : WS X c (.Break pos) A D := fun G ps σ H S => wS_of ps_break ⟨A, G, ps, Ex.refl G, S, q⟩
theorem ws_cont (q : D.ct A) : WS X c (.Continue pos) A D := fun G ps σ H S => wS_of ps_continue ⟨A, G, ps, Ex.refl G, S, q⟩
/-- a list of one's own stands still from here on -/
theorem wb_freeze (k : Nat) {ds : List PyData} (hm : A.μ[k]? = some (some ds)) (h : WB X c sts (A.freeze k ds) D) : WB X c sts A D := fun G ps σ H S => by
  obtain ⟨G', e, S'⟩ := S.freeze hm
  exact wB_up e (h G' ps σ H S')
/-- x op= e, by data -/
theorem ws_aug {i : Nat} {x : Str} {px : Pos} {op : Operator} {d0 : PyData} (hρ : A.ρ[i]? = some (.dat d0)) (h : WE X c e A fun d1 => OpD X c (inplaceOp op) d0 d1 fun d => D.nx ⟨A.ρ.set i (.dat d), A.μ⟩) (hN : X.N[i]? = some x := by rfl) (hnd : X.N.Nodup) (hx : Loc X.env.scope x := by first | exact .inl rfl | exact .inr rfl)
    (hf : X.fn x = true ∨ X.env.scope.names.lookup x = some .local := by first | exact .inl rfl | exact .inr rfl) : WS X c (.AugAssign (.Name x px) op e pos) A D := fun G ps σ H S => by
  obtain ⟨v, hs, hv⟩ := S.sl i _ hρ
  have iw : PIp X op (fun x y H Q => ∀ pins s σ v u, Inv X pins σ H s → RelV x v → RelV y u → wpAny (model X.prog X.w) X.A (inplaceOp op v u) (EP X pins σ Q) X.xe s) := fun pins s σ _ _ _ v u _ I r1 r2 h => h pins s σ v u I r1 r2
  refine wS_of (ps_aug hnd hN hx pe_w iw hf) ⟨v, hs, wE_mono (h G ps σ H S) fun y H1 ⟨G1, d1, s1, r1, r, ho, q⟩ => fun pins s σ' v1 u1 I rv ru => ?_⟩
  refine thn (ho pins s σ' H1 v y v1 u1 _ I rv ru (q G H G1 H1 v y s1 (dp_up s1.ex d0 hv) r1)) fun _ _ ⟨v', H', I', r', G', d, st', dd, qq⟩ => ⟨v', H', I', r', ?_⟩
  exact ⟨_, G', ps, (s1.trans st').ex, (S.step (s1.trans st')).put dd, qq⟩
/-- x.append(e), x a list of one's own -/
theorem ws_app {i k : Nat} {x : Str} {px apos cpos : Pos} {ds : List PyData} (hρ : A.ρ[i]? = some (.own k)) (hm : A.μ[k]? = some (some ds)) (hz : ds.length < 100000) (h : WE X c e A fun d => D.nx ⟨A.ρ, A.μ.set k (some (ds ++ [d]))⟩)
    (hN : X.N[i]? = some x := by rfl) (hv : Vis X.env.scope x := by first | exact Or.inl rfl | exact Or.inr (Or.inl rfl) | exact Or.inr (Or.inr rfl))
    (hd : (x == ("__debug__" : Str)) = false := by decide) (hcd : (x == ("__classdict__" : Str)) = false := by decide)
    (hbase : attributeBase (.Name x px) "append" X.env (eval (.Name x px) X.env) = eval (.Name x px) X.env := by rfl)
    (hfew : ((backTo cpos (starEach [e] X.env)).all (fun x => !x.1) && (backToKw cpos (keywordEach [] X.env)).all (fun x => x.1.isSome) && decide ([e].length + ([] : List Keyword).length + (if ([] : List Keyword).isEmpty then 0 else 1) < 30)) = true := by rfl)
    (hline : (apos.endLine == cpos.line) = true := by rfl) (hs : starEach [e] X.env = (false, eval e X.env) :: starEach [] X.env := by rfl) (hplain : (backTo cpos (starEach [] X.env)).any (·.1) = false := by rfl)
    (hsw : swapsWith (.Call (.Attribute (.Name x px) "append" apos) [e] [] cpos) none pos.line X.env = pure false := by rfl) :
    WS X c (.Expr (.Call (.Attribute (.Name x px) "append" apos) [e] [] cpos) pos) A D := fun G ps σ H S => by
  obtain ⟨p, hp, hsl⟩ := S.sl i _ hρ
  obtain ⟨g, xs, hx, ha⟩ := S.mu k p ds hp hm
  refine wS_of (ps_expr (pe_bm PySem.F.plainAttrs_list PySem.F.slot_list_append PySem.F.type_list_append mt_append (pe_var hN hv hd hcd) (pa_cons pe_w pa_nil hs) hbase hfew hline hs hplain) hsw) ?_
  refine ⟨.ref p, hsl, .inl ⟨rfl, xs, .inl (.inl hx)⟩, wE_mono (h G ps σ H S) fun v H1 ⟨G1, d, s1, r1, q⟩ => ?_⟩
  have S1 := S.step s1
  obtain ⟨g1, ys, hy, hb⟩ := S1.mu k p ds hp hm
  exact ⟨p, ys, v, rfl, rfl, hy, by rw [dall_len hb]; exact Evl.sz_lt hz, _, G1, ps, s1.ex, S1.chg hp hm (dall_app hb (.cons r1 .nil)), q⟩
/-- x[j] of a list of one's own -/
theorem we_ixO {i k : Nat} {x : Str} {px : Pos} {ds : List PyData} (hρ : A.ρ[i]? = some (.own k)) (hm : A.μ[k]? = some (some ds)) (h : WE X c b A fun d2 => ∃ j d, d2 = .int j ∧ atI ds j = some d ∧ Q d)
    (hN : X.N[i]? = some x := by rfl) (hv : Vis X.env.scope x := by first | exact Or.inl rfl | exact Or.inr (Or.inl rfl) | exact Or.inr (Or.inr rfl))
    (hd : (x == ("__debug__" : Str)) = false := by decide) (hcd : (x == ("__classdict__" : Str)) = false := by decide) (hpl : PlainIx b := by intro _ _; rfl) : WE X c (.Subscript (.Name x px) b pos) A Q := fun G ps σ H S => by
  obtain ⟨p, hp, hsl⟩ := S.sl i _ hρ
  refine wE_of (pe_ix ix_list (pe_var hN hv hd hcd) pe_w hpl) ⟨.ref p, hsl, wE_mono (h G ps σ H S) fun v H1 ⟨G1, d2, s1, r1, j, d, e1, ea, q⟩ => ?_⟩
  subst e1
  obtain ⟨g1, ys, hy, hb⟩ := (S.step s1).mu k p ds hp hm
  obtain ⟨w, hw, rw'⟩ := at_ok hb ea
  exact ⟨p, ys, j, w, rfl, dp_int r1, .inl (.inl hy), hw, G1, d, s1, rw', q⟩
/-- len(x) of a list of one's own -/
theorem we_lenO {i k : Nat} {x : Str} {px : Pos} {ds : List PyData} (hm0 : X.mg "len" = none) (hρ : A.ρ[i]? = some (.own k)) (hm : A.μ[k]? = some (some ds)) (q : Q (.int ds.length))
    (hN : X.N[i]? = some x := by rfl) (hv : Vis X.env.scope x := by first | exact Or.inl rfl | exact Or.inr (Or.inl rfl) | exact Or.inr (Or.inr rfl))
    (hd : (x == ("__debug__" : Str)) = false := by decide) (hcd : (x == ("__classdict__" : Str)) = false := by decide) (hg : Gl X "len" := by rfl)
    (he : starEach [.Name x px] X.env = (false, eval (.Name x px) X.env) :: starEach [] X.env := by rfl) (hpl : (backTo pos (starEach [] X.env)).any (·.1) = false := by rfl) : WE X c (.Call (.Name "len" p) [.Name x px] [] pos) A Q := fun G ps σ H S => by
  obtain ⟨p, hp, hsl⟩ := S.sl i _ hρ
  obtain ⟨g, xs, hx, ha⟩ := S.mu k p ds hp hm
  exact wE_of (pe_callB call_len_seq hg hm0 PySem.boot_len (pa_cons (pe_var hN hv hd hcd) pa_nil he) (by decide) (by decide) he hpl) ⟨.ref p, hsl, p, xs, rfl, .inl (.inl (.inl hx)), G, _, S.refl, .int _, by rw [dall_len ha]; exact q⟩
/-- x[j] = e, x a list of one's own -/
theorem ws_setO {i k : Nat} {x : Str} {px ipos : Pos} {ds : List PyData} (hρ : A.ρ[i]? = some (.own k)) (hm : A.μ[k]? = some (some ds)) (h : WE X c e A fun d => WE X c b A fun d2 => ∃ j : Nat, d2 = .int j ∧ j < ds.length ∧ D.nx ⟨A.ρ, A.μ.set k (some (ds.set j d))⟩)
    (hN : X.N[i]? = some x := by rfl) (hv : Vis X.env.scope x := by first | exact Or.inl rfl | exact Or.inr (Or.inl rfl) | exact Or.inr (Or.inr rfl))
    (hd : (x == ("__debug__" : Str)) = false := by decide) (hcd : (x == ("__classdict__" : Str)) = false := by decide)
    (ha : ∀ v, assign (.Subscript (.Name x px) b ipos) X.env v = (do
      let ov ← holding [v] (eval (.Name x px) X.env)
      let iv ← holding [v, ov] (eval b X.env)
      standAt ipos
      holding [v, ov, iv] (setItem ov iv v)
      release [v, ov, iv] []) := by intro _; rfl)
    (hs : swapsWithSole [.Subscript (.Name x px) b ipos] e pos.line X.env = pure false := by rfl) (hw : swappedStores [.Subscript (.Name x px) b ipos] e X.env = pure none := by rfl) (h1 : (assignEach [.Subscript (.Name x px) b ipos] X.env).map (·.2) = [assign (.Subscript (.Name x px) b ipos) X.env] := by rfl) :
    WS X c (.Assign [.Subscript (.Name x px) b ipos] e pos) A D := fun G ps σ H S => by
  obtain ⟨p, hp, hsl⟩ := S.sl i _ hρ
  refine wS_of (ps_asg pe_w (pg_sub (pe_var hN hv hd hcd) pe_w set_list ha) hs hw h1) (wE_mono (h G ps σ H S) fun v H1 ⟨G1, d, s1, r1, q⟩ => ?_)
  refine ⟨.ref p, hsl, wE_mono (q G1 ps σ H1 (S.step s1)) fun v2 H2 ⟨G2, d2, s2, r2, j, e2, hj, q2⟩ => ?_⟩
  subst e2
  have S2 := (S.step s1).step s2
  obtain ⟨g1, ys, hy, hb⟩ := S2.mu k p ds hp hm
  exact ⟨p, ys, (j : Int), j, rfl, dp_int r2, hy, Evl.ixN_nat (by rw [dall_len hb]; exact hj), _, G2, ps, s1.ex.trans s2.ex, S2.chg hp hm (dall_set (dp_up s2.ex d r1) j hb), q2⟩
end
end Eng

set_option Elab.async false
set_option linter.all false
set_option maxRecDepth 100000
set_option maxHeartbeats 2000000
namespace Eng
open PySem PySem.Spec PyProof.Rows L2
open Evl (Ex)
section
variable {X : Cx} {c : Ct} {A : AS} {e a b : Expr} {es : List Expr} {pos p : Pos} {Q : PyData → Prop} {st : Stmt} {sts rest body : List Stmt} {D : ADs}
/-! ### targets of loops -/
def wG (X : Cx) (tg : Expr) : TG := fun v σ H Q => ∀ pins s u, Inv X pins σ H s → RelV v u → wpAny (model X.prog X.w) X.A (assign tg X.env u) (fun _ s' => ∃ σ' H', Inv X pins σ' H' s' ∧ Q σ' H') X.xe s
theorem pg_w {tg : Expr} : PG X tg (wG X tg) := ⟨fun pins s _ _ _ u _ I r h => h pins s u I r⟩
theorem wG_of {tg : Expr} {t : TG} {v : V} {σ : L2.St} {H : Hp} {Q : L2.St → Hp → Prop} (h : PG X tg t) (q : t v σ H Q) : wG X tg v σ H Q := fun pins s u I r => h.run pins s σ H v u Q I r q
theorem wG_mono {tg : Expr} {v : V} {σ : L2.St} {H : Hp} {Q Q' : L2.St → Hp → Prop} (h : wG X tg v σ H Q) (k : ∀ σ H, Q σ H → Q' σ H) : wG X tg v σ H Q' := fun pins s u I r => thn (h pins s u I r) fun _ s' ⟨σ', H', I', q⟩ => ⟨σ', H', I', k _ _ q⟩
/-- a target takes data -/
def WG (X : Cx) (c : Ct) (tg : Expr) (d : PyData) (A : AS) (P : AS → Prop) : Prop := ∀ G ps σ H v, St X.K c A G ps σ H → Dp X.K G v d → wG X tg v σ H fun σ' H' => ∃ A' G', Stp X.K c.pa G H G' H' ∧ St X.K c A' G' ps σ' H' ∧ P A'
theorem wg_name {i : Nat} {x : Str} {d : PyData} {P : AS → Prop} (q : P ⟨A.ρ.set i (.dat d), A.μ⟩) (hN : X.N[i]? = some x := by rfl) (hnd : X.N.Nodup) (hx : Loc X.env.scope x := by first | exact .inl rfl | exact .inr rfl)
    (hf : X.fn x = true ∨ X.env.scope.names.lookup x = some .local := by first | exact .inl rfl | exact .inr rfl) : WG X c (.Name x pos) d A P := fun G ps σ H v S r =>
  wG_of (pg_name hnd hN hx hf) ⟨_, G, S.refl, S.put r, q⟩
def wGs (X : Cx) (ts : List Expr) : TGs := fun vs σ H Q => ∀ pins s us, Inv X pins σ H s → Vals vs us → wpAny (model X.prog X.w) X.A (assignInOrder ((assignEach ts X.env).map (·.2)) us) (fun _ s' => ∃ σ' H', Inv X pins σ' H' s' ∧ Q σ' H') X.xe s
theorem pgs_w {ts : List Expr} : PGs X ts (wGs X ts) := ⟨fun pins s _ _ _ us _ I r h => h pins s us I r⟩
theorem wGs_of {ts : List Expr} {t : TGs} {vs : List V} {σ : L2.St} {H : Hp} {Q : L2.St → Hp → Prop} (h : PGs X ts t) (q : t vs σ H Q) : wGs X ts vs σ H Q := fun pins s us I r => h.run pins s σ H vs us Q I r q
theorem wGs_mono {ts : List Expr} {vs : List V} {σ : L2.St} {H : Hp} {Q Q' : L2.St → Hp → Prop} (h : wGs X ts vs σ H Q) (k : ∀ σ H, Q σ H → Q' σ H) : wGs X ts vs σ H Q' := fun pins s us I r => thn (h pins s us I r) fun _ s' ⟨σ', H', I', q⟩ => ⟨σ', H', I', k _ _ q⟩
def WGs (X : Cx) (c : Ct) (ts : List Expr) (ds : List PyData) (A : AS) (P : AS → Prop) : Prop := ∀ G ps σ H vs, St X.K c A G ps σ H → DpAll X.K G vs ds → wGs X ts vs σ H fun σ' H' => ∃ A' G', Stp X.K c.pa G H G' H' ∧ St X.K c A' G' ps σ' H' ∧ P A'
theorem wgs_nil {P : AS → Prop} (q : P A) : WGs X c [] [] A P := fun G ps σ H vs S r => wGs_of pgs_nil ⟨by cases r; rfl, A, G, S.refl, S, q⟩
theorem wgs_cons {tg : Expr} {ts : List Expr} {d : PyData} {ds : List PyData} {P : AS → Prop} (h : WG X c tg d A fun A' => WGs X c ts ds A' P) (hs : (assignEach (tg :: ts) X.env).map (·.2) = assign tg X.env :: (assignEach ts X.env).map (·.2) := by rfl) : WGs X c (tg :: ts) (d :: ds) A P := fun G ps σ H vs S r => by
  cases r with
  | cons r1 r2 =>
    exact wGs_of (pgs_cons pg_w pgs_w hs) ⟨_, _, rfl, wG_mono (h G ps σ H _ S r1) fun σ1 H1 ⟨A1, G1, s1, S1, q⟩ => wGs_mono (q G1 ps σ1 H1 _ S1 (dp_upAll s1.ex _ r2)) fun σ2 H2 ⟨A2, G2, s2, S2, q2⟩ => ⟨A2, G2, s1.trans s2, S2, q2⟩⟩
theorem wg_tup {ts : List Expr} {k : Nat} {ds : List PyData} {P : AS → Prop} (h : WGs X c ts ds A P) (hl : ds.length = (assignEach ts X.env).length := by rfl) (hc : X.calm = true := by rfl) (hst : (assignEach ts X.env).findIdx? (·.1) = none := by rfl) : WG X c (.Tuple ts k pos) (.tuple ds) A P := fun G ps σ H v S r => by
  obtain ⟨p, xs, rfl, hs, ha⟩ := dp_tup r
  exact wG_of (pg_tup hc pgs_w rfl hst) ⟨p, xs, rfl, Evl.ex_t S.st.sub hs, by rw [dall_len ha, hl], h G ps σ H xs S ha⟩
/-- a, b = e -/
theorem ws_asgT {tg : Expr} (h : WE X c e A fun d => WG X c tg d A D.nx) (hs : swapsWithSole [tg] e pos.line X.env = pure false := by rfl) (hw : swappedStores [tg] e X.env = pure none := by rfl) (h1 : (assignEach [tg] X.env).map (·.2) = [assign tg X.env] := by rfl) : WS X c (.Assign [tg] e pos) A D := fun G ps σ H S =>
  wS_of (ps_asg pe_w pg_w hs hw h1) (wE_mono (h G ps σ H S) fun v H' ⟨G', d, s, r, q⟩ => wG_mono (q G' ps σ H' v (S.step s) r) fun σ2 H2 ⟨A2, G2, s2, S2, q2⟩ => ⟨A2, G2, ps, s.ex.trans s2.ex, S2, q2⟩)

/-! ### loops -/
theorem ws_forL {tg it : Expr} {I : Nat → AS → Prop} (h : WE X c it A fun d => ∃ ds, d = .list ds ∧ I 0 A ∧ (∀ i x A', ds[i]? = some x → I i A' → WG X c tg x A' fun A2 => WB X c body A2 { D with nx := I (i + 1), ct := I (i + 1), bk := D.nx }) ∧ ∀ A', I ds.length A' → D.nx A')
    (hp : PassesOwn (model X.prog X.w) X.A X.env X.xe) (hc : X.calm = true := by rfl) (hs : ∀ x, foldedSetIterable it X.env x = pure x := by intro _; rfl) : WS X c (.For tg it body [] pos) A D := fun G ps σ H S =>
  wS_of (ps_for hp hc (pi_list pe_w) pg_w pss_w hs) (wE_mono (h G ps σ H S) fun v H1 ⟨G1, d, s1, r1, ds, e1, i0, hi, hd⟩ => by
    subst e1
    obtain ⟨p, xs, rfl, hx, ha⟩ := dp_list r1
    have S1 := S.step s1
    refine ⟨p, rfl, ⟨xs, Evl.ex_l s1.sub hx⟩, for_list (xs := xs) (fun i σ' H' => ∃ A' G' ps', Ex G1 G' ∧ St X.K c A' G' ps' σ' H' ∧ I i A') ⟨A, G1, ps, Ex.refl G1, S1, i0⟩ (fun i σ' H' _ ⟨A', G', ps', e', S', _⟩ => Evl.ex_l (e'.trans S'.st.sub) hx) (fun i x σ' H' hxi ⟨A', G', ps', e', S', q⟩ => ?_) (fun σ' H' ⟨A', G', ps', e', S', q⟩ => ?_)⟩
    · obtain ⟨dx, hdx, rdx⟩ := dall_getV ha hxi
      refine wG_mono (hi i dx A' hdx q G' ps' σ' H' x S' (dp_up e' dx rdx)) fun σ2 H2 ⟨A2, G2, s2, S2, q2⟩ => ?_
      refine wB_mono (q2 G2 ps' σ2 H2 S2) (fun σ3 H3 ⟨A3, G3, ps3, e3, S3, q3⟩ => ⟨A3, G3, ps3, (e'.trans s2.ex).trans e3, S3, q3⟩) (fun _ _ q => q) (fun σ3 H3 ⟨A3, G3, ps3, e3, S3, q3⟩ => ⟨A3, G3, ps3, ((s1.ex.trans e').trans s2.ex).trans e3, S3, q3⟩) (fun σ3 H3 ⟨A3, G3, ps3, e3, S3, q3⟩ => ⟨A3, G3, ps3, (e'.trans s2.ex).trans e3, S3, q3⟩)
    · rw [dall_len ha] at q
      exact ⟨A', G', ps', s1.ex.trans e', S', hd A' q⟩)
theorem ws_forT {tg it : Expr} {I : Nat → AS → Prop} (h : WE X c it A fun d => ∃ ds, d = .tuple ds ∧ I 0 A ∧ (∀ i x A', ds[i]? = some x → I i A' → WG X c tg x A' fun A2 => WB X c body A2 { D with nx := I (i + 1), ct := I (i + 1), bk := D.nx }) ∧ ∀ A', I ds.length A' → D.nx A')
    (hp : PassesOwn (model X.prog X.w) X.A X.env X.xe) (hc : X.calm = true := by rfl) (hs : ∀ x, foldedSetIterable it X.env x = pure x := by intro _; rfl) : WS X c (.For tg it body [] pos) A D := fun G ps σ H S =>
  wS_of (ps_for hp hc (pi_tup pe_w) pg_w pss_w hs) (wE_mono (h G ps σ H S) fun v H1 ⟨G1, d, s1, r1, ds, e1, i0, hi, hd⟩ => by
    subst e1
    obtain ⟨p, xs, rfl, hx, ha⟩ := dp_tup r1
    have S1 := S.step s1
    refine ⟨p, rfl, ⟨xs, Evl.ex_t s1.sub hx⟩, for_tup (xs := xs) (fun i σ' H' => ∃ A' G' ps', Ex G1 G' ∧ St X.K c A' G' ps' σ' H' ∧ I i A') ⟨A, G1, ps, Ex.refl G1, S1, i0⟩ (fun i σ' H' _ ⟨A', G', ps', e', S', _⟩ => Evl.ex_t (e'.trans S'.st.sub) hx) (fun i x σ' H' hxi ⟨A', G', ps', e', S', q⟩ => ?_) (fun σ' H' ⟨A', G', ps', e', S', q⟩ => ?_)⟩
    · obtain ⟨dx, hdx, rdx⟩ := dall_getV ha hxi
      refine wG_mono (hi i dx A' hdx q G' ps' σ' H' x S' (dp_up e' dx rdx)) fun σ2 H2 ⟨A2, G2, s2, S2, q2⟩ => ?_
      refine wB_mono (q2 G2 ps' σ2 H2 S2) (fun σ3 H3 ⟨A3, G3, ps3, e3, S3, q3⟩ => ⟨A3, G3, ps3, (e'.trans s2.ex).trans e3, S3, q3⟩) (fun _ _ q => q) (fun σ3 H3 ⟨A3, G3, ps3, e3, S3, q3⟩ => ⟨A3, G3, ps3, ((s1.ex.trans e').trans s2.ex).trans e3, S3, q3⟩) (fun σ3 H3 ⟨A3, G3, ps3, e3, S3, q3⟩ => ⟨A3, G3, ps3, (e'.trans s2.ex).trans e3, S3, q3⟩)
    · rw [dall_len ha] at q
      exact ⟨A', G', ps', s1.ex.trans e', S', hd A' q⟩)
/-- what is said of the arguments of range -/
def rgArgs : List AV → Option (Int × Int)
  | [.dat (.int n)] => some (0, n)
  | [.dat (.int a), .dat (.int b)] => some (a, b)
  | _ => none
theorem ws_forR1 {tg n : Expr} {p2 : Pos} {I : Nat → AS → Prop} (hm : X.mg "range" = none) (h : WE X c n A fun d => ∃ m, d = .int m ∧ m < 2 ^ 61 ∧ -(2 ^ 61) < m ∧ I 0 A ∧ (∀ (i : Nat) A', (i : Int) < m → I i A' → WG X c tg (.int i) A' fun A2 => WB X c body A2 { D with nx := I (i + 1), ct := I (i + 1), bk := D.nx }) ∧ ∀ A', I m.toNat A' → D.nx A')
    (hp : PassesOwn (model X.prog X.w) X.A X.env X.xe) (hc : X.calm = true := by rfl) (hg : Gl X "range" := by rfl) (hst : starEach [n] X.env = (false, eval n X.env) :: starEach [] X.env := by rfl) (hst2 : starEach [n] X.env = [(false, eval n X.env)] := by rfl) (hs : ∀ x, foldedSetIterable (.Call (.Name "range" p) [n] [] p2) X.env x = pure x := by intro _; rfl) : WS X c (.For tg (.Call (.Name "range" p) [n] [] p2) body [] pos) A D := fun G ps σ H S =>
  wS_of (ps_for hp hc (pi_range1 hg hm (pa_cons pe_w pa_nil hst) hst2) pg_w pss_w hs) (wE_mono (h G ps σ H S) fun v H1 ⟨G1, d, s1, r1, m, e1, b1, b2, i0, hi, hd⟩ => by
    subst e1
    have S1 := S.step s1
    refine ⟨m, by rw [dp_int r1], by omega, by omega, for_range (n := m.toNat) (fun i σ' H' => ∃ A' G' ps', Ex G1 G' ∧ St X.K c A' G' ps' σ' H' ∧ I i A') ⟨A, G1, ps, Ex.refl G1, S1, i0⟩ (fun i σ' H' hxi ⟨A', G', ps', e', S', q⟩ => ?_) (fun σ' H' ⟨A', G', ps', e', S', q⟩ => ?_)⟩
    · have ei : (0 : Int) + (i : Int) = (i : Int) := Int.zero_add _
      rw [ei]
      refine wG_mono (hi i A' (by omega) q G' ps' σ' H' _ S' (.int _)) fun σ2 H2 ⟨A2, G2, s2, S2, q2⟩ => ?_
      refine wB_mono (q2 G2 ps' σ2 H2 S2) (fun σ3 H3 ⟨A3, G3, ps3, e3, S3, q3⟩ => ⟨A3, G3, ps3, (e'.trans s2.ex).trans e3, S3, q3⟩) (fun _ _ q => q) (fun σ3 H3 ⟨A3, G3, ps3, e3, S3, q3⟩ => ⟨A3, G3, ps3, ((s1.ex.trans e').trans s2.ex).trans e3, S3, q3⟩) (fun σ3 H3 ⟨A3, G3, ps3, e3, S3, q3⟩ => ⟨A3, G3, ps3, (e'.trans s2.ex).trans e3, S3, q3⟩)
    · exact ⟨A', G', ps', s1.ex.trans e', S', hd A' q⟩)
theorem ws_while {t : Expr} {I : Nat → AS → Prop} (m : Nat) (h0 : I m A) (h : ∀ m A', I m A' → WT X c t A' fun k => (k = true → WB X c body A' { D with nx := fun A2 => ∃ m', m' < m ∧ I m' A2, ct := fun A2 => ∃ m', m' < m ∧ I m' A2, bk := D.nx }) ∧ (k = false → D.nx A'))
    (hp : PassesOwn (model X.prog X.w) X.A X.env X.xe) : WS X c (.While t body [] pos) A D := fun G ps σ H S =>
  wS_of (ps_while hp pt_w pss_w) ⟨fun m σ' H' => ∃ A' G' ps', Ex G G' ∧ St X.K c A' G' ps' σ' H' ∧ I m A', ⟨m, A, G, ps, Ex.refl G, S, h0⟩, fun m σ' H' ⟨A', G', ps', e', S', q⟩ => wT_mono (h m A' q G' ps' σ' H' S') fun k H1 ⟨G1, s1, q1, q2⟩ => by
    cases k with
    | true =>
      refine iteT ⟨fun σ2 H2 => ∃ A2 G2 ps2, Ex G G2 ∧ St X.K c A2 G2 ps2 σ2 H2 ∧ ∃ m', m' < m ∧ I m' A2, fun σ2 H2 ⟨A2, G2, ps2, e2, S2, m', hm, q⟩ => ⟨m', hm, A2, G2, ps2, e2, S2, q⟩, ?_⟩
      exact wB_mono (q1 rfl G1 ps' σ' H1 (S'.step s1)) (fun σ3 H3 ⟨A3, G3, ps3, e3, S3, q3⟩ => ⟨A3, G3, ps3, (e'.trans s1.ex).trans e3, S3, q3⟩) (fun _ _ q => q) (fun σ3 H3 ⟨A3, G3, ps3, e3, S3, q3⟩ => ⟨A3, G3, ps3, (e'.trans s1.ex).trans e3, S3, q3⟩) (fun σ3 H3 ⟨A3, G3, ps3, e3, S3, q3⟩ => ⟨A3, G3, ps3, (e'.trans s1.ex).trans e3, S3, q3⟩)
    | false => exact iteF ⟨A', G1, ps', e'.trans s1.ex, S'.step s1, q2 rfl⟩⟩

/-! ### comprehensions -/
def wipeA (ρ : List SV) : List Nat → List SV
  | [] => ρ
  | v :: vs => (wipeA ρ vs).set v .any
theorem St.wipe {K : PySem.W.Frag} {G : Hp} {ps : List Addr} {σ : L2.St} {H : Hp} (S : St K c A G ps σ H) : ∀ vs : List Nat, St K c ⟨wipeA A.ρ vs, A.μ⟩ G ps (L2.wipe σ vs) H
  | [] => S
  | v :: vs => by
    have T := S.wipe vs
    refine ⟨T.st, by show ((L2.wipe σ vs).set v none).length = ((wipeA A.ρ vs).set v .any).length; rw [List.length_set, List.length_set]; exact T.len, fun j sv e => ?_, T.mlen, T.inj, T.pre, T.new, T.mu⟩
    have e' : ((wipeA A.ρ vs).set v .any)[j]? = some sv := e
    show SlotOk K c.pa G ps ((L2.wipe σ vs).set v none)[j]? sv
    by_cases z : v = j
    · subst z
      rw [List.getElem?_set_self'] at e'
      cases q : (wipeA A.ρ vs)[v]? with
      | none => rw [q] at e'; cases e'
      | some y =>
        rw [q] at e'
        have e2 : SV.any = sv := Option.some.inj e'
        subst e2
        exact True.intro
    · rw [List.getElem?_set_ne z] at e' ⊢
      exact T.sl j sv e'
theorem wipe_put {σ : L2.St} {j : Nat} {x : Option V} : L2.wipe ((L2.wipe σ [j]).set j x) [j] = L2.wipe σ [j] := by
  show ((σ.set j none).set j x).set j none = σ.set j none
  rw [List.set_set, List.set_set]
/-- the heap of a comprehension's turn: D the list that is made -/
def LcI (K : PySem.W.Frag) (pa : Option Addr) (G1 H1 : Hp) (L : Addr) (P : List PyData → Prop) (n : Nat) (H' : Hp) : Prop :=
  ∃ G' xs acc, Stp K pa G1 H1 G' H' ∧ H' L = some (.lst xs) ∧ G' L = none ∧ DpAll K G' xs acc ∧ xs.length ≤ n ∧ P acc
theorem lc_turn {K : PySem.W.Frag} {G1 H1 : Hp} {L : Addr} {ps : List Addr} {σ : L2.St} {j : Nat} {x : V} {d : PyData} {tt : TT} {te : TE} {i : Nat} {H' : Hp} {P P' : List PyData → Prop} (S : St K c A G1 ps σ H1) (hL : H1 L = none) (rd : Dp K G1 x d) (hi : i < 50000)
    (h : LcI K c.pa G1 H1 L P i H') (ht : ∀ acc, P acc → ∀ G' H2, St K c ⟨(wipeA A.ρ [j]).set j (.dat d), A.μ⟩ G' ps ((L2.wipe σ [j]).set j (some x)) H2 → tt ((L2.wipe σ [j]).set j (some x)) H2 fun b H3 => ∃ G3, Stp K c.pa G' H2 G3 H3 ∧ (b = true → te ((L2.wipe σ [j]).set j (some x)) H3 fun y H4 => ∃ G4 dy, Stp K c.pa G3 H3 G4 H4 ∧ Dp K G4 y dy ∧ P' (acc ++ [dy])) ∧ (b = false → P' acc))
    (hm : ∀ σ H (Q Q' : Bool → Hp → Prop), tt σ H Q → (∀ b H', Q b H' → Q' b H') → tt σ H Q') (hme : ∀ σ H (Q Q' : VK), te σ H Q → (∀ b H', Q b H' → Q' b H') → te σ H Q') :
    tt ((L2.wipe σ [j]).set j (some x)) H' fun b H3 => if b = true then te ((L2.wipe σ [j]).set j (some x)) H3 fun y H4 => ∃ acc, H4 L = some (.lst acc) ∧ acc.length < sizeLine ∧ LcI K c.pa G1 H1 L P' (i + 1) (upd H4 L (.lst (acc ++ [y]))) else LcI K c.pa G1 H1 L P' (i + 1) H3 := by
  obtain ⟨G', xs, acc, s, hx, hg, ha, hl, hp⟩ := h
  have S' : St K c ⟨(wipeA A.ρ [j]).set j (.dat d), A.μ⟩ G' ps ((L2.wipe σ [j]).set j (some x)) H' := ((S.wipe [j]).put rd).step s
  have nL : c.pa ≠ some L := fun z => (s.pool L z).1 hL
  refine hm _ _ _ _ (ht acc hp G' H' S') fun b H3 ⟨G3, s3, q1, q2⟩ => ?_
  have hx3 : H3 L = some (.lst xs) := s3.keep L _ nL hx
  have hg3 : G3 L = none := s3.fr L (by rw [hx]; exact fun z => nomatch z) hg
  cases b with
  | false => exact iteF ⟨G3, xs, acc, s.trans s3, hx3, hg3, dp_upAll s3.ex _ ha, Nat.le_succ_of_le hl, q2 rfl⟩
  | true =>
    refine iteT (hme _ _ _ _ (q1 rfl) fun y H4 ⟨G4, dy, s4, ry, q⟩ => ?_)
    have hx4 : H4 L = some (.lst xs) := s4.keep L _ nL hx3
    have hg4 : G4 L = none := s4.fr L (by rw [hx3]; exact fun z => nomatch z) hg3
    refine ⟨xs, hx4, Evl.sz_lt (by omega), G4, xs ++ [y], acc ++ [dy], ((s.trans s3).trans s4).mut hL hg4, upd_same, hg4, dall_app (dp_upAll (s3.ex.trans s4.ex) _ ha) (.cons ry .nil), by rw [List.length_append]; exact Nat.add_le_add_right hl 1, q⟩
def wTs (X : Cx) (ifs : List Expr) : TT := fun σ H Q => ∀ pins s, Inv X pins σ H s → wpAny (model X.prog X.w) X.A (forIn ifs true fun c r => if r = true then do let ok ← isTrue c X.env (eval c X.env); pure (ForInStep.yield ok) else pure (ForInStep.yield r)) (TP X pins σ Q) X.xe s
theorem wTs_mono {ifs : List Expr} {σ : L2.St} {H : Hp} {Q Q' : Bool → Hp → Prop} (h : wTs X ifs σ H Q) (k : ∀ v H', Q v H' → Q' v H') : wTs X ifs σ H Q' := fun pins s I => thn (h pins s I) fun u s' ⟨H', I', q⟩ => ⟨H', I', k _ H' q⟩
/-- a comprehension's tests and element, in every frame that its block may have -/
def bE (X : Cx) (scope : Scope) (e : Expr) : TE := fun σ H Q => ∀ (s : Shared) (H0 : Hp) (C : Addr) (cl : List (Str × Addr)) (fp : List Addr), wE (X.blk s H0 scope (compEnvC scope cl C X.env) fp) e σ H Q
def bT (X : Cx) (scope : Scope) (ifs : List Expr) : TT := fun σ H Q => ∀ (s : Shared) (H0 : Hp) (C : Addr) (cl : List (Str × Addr)) (fp : List Addr), wTs (X.blk s H0 scope (compEnvC scope cl C X.env) fp) ifs σ H Q
/-- the tests and the element from abstract states -/
def WTe (X : Cx) (c : Ct) (scope : Scope) (ifs : List Expr) (elt : Expr) (A : AS) (P : PyData → Prop) (Pn : Prop) : Prop := ∀ G ps σ H, St X.K c A G ps σ H → bT X scope ifs σ H fun b H3 => ∃ G3, Stp X.K c.pa G H G3 H3 ∧ (b = true → bE X scope elt σ H3 fun y H4 => ∃ G4 dy, Stp X.K c.pa G3 H3 G4 H4 ∧ Dp X.K G4 y dy ∧ P dy) ∧ (b = false → Pn)
end
end Eng

set_option Elab.async false
set_option linter.all false
set_option maxRecDepth 100000
set_option maxHeartbeats 2000000
namespace Eng
open PySem PySem.Spec PyProof.Rows L2
open Evl (Ex)
section
variable {X : Cx} {c : Ct} {A : AS} {e a b : Expr} {es : List Expr} {pos p : Pos} {Q : PyData → Prop} {st : Stmt} {sts rest body : List Stmt} {D : ADs}
def WTs (X : Cx) (c : Ct) (ifs : List Expr) (A : AS) (Q : Bool → Prop) : Prop := ∀ G ps σ H, St X.K c A G ps σ H → wTs X ifs σ H fun b H' => ∃ G', Stp X.K c.pa G H G' H' ∧ Q b
theorem wTs_of {ifs : List Expr} {tt : TT} {σ : L2.St} {H : Hp} {Q : Bool → Hp → Prop} (h : PTs X ifs tt) (q : tt σ H Q) : wTs X ifs σ H Q := fun pins s I => h.run pins s σ H Q I q
theorem wts_nil {Q : Bool → Prop} (q : Q true) : WTs X c [] A Q := fun G ps σ H S => wTs_of pts_nil ⟨G, S.refl, q⟩
theorem wts_one {t : Expr} {Q : Bool → Prop} (h : WT X c t A Q) : WTs X c [t] A Q := fun G ps σ H S => wTs_of (pts_one pt_w) (h G ps σ H S)
/-- one turn of a comprehension, by data: what is appended -/
def Turn (X : Cx) (c : Ct) (scope : Scope) (ifs : List Expr) (elt : Expr) (A : AS) (acc : List PyData) (P : List PyData → Prop) : Prop :=
  ∀ (s : Shared) (H0 : Hp) (C : Addr) (cl : List (Str × Addr)) (fp : List Addr), WTs (X.blk s H0 scope (compEnvC scope cl C X.env) fp) c ifs A fun k =>
    (k = true → ∀ (s : Shared) (H0 : Hp) (C : Addr) (cl : List (Str × Addr)) (fp : List Addr), WE (X.blk s H0 scope (compEnvC scope cl C X.env) fp) c elt A fun d => P (acc ++ [d])) ∧ (k = false → P acc)
theorem turn_ok {scope : Scope} {ifs : List Expr} {elt : Expr} {G1 H1 : Hp} {L : Addr} {ps : List Addr} {σ : L2.St} {j : Nat} {x : V} {d : PyData} {i : Nat} {H' : Hp} {P P' : List PyData → Prop} (S : St X.K c A G1 ps σ H1) (hL : H1 L = none) (rd : Dp X.K G1 x d) (hi : i < 50000)
    (h : LcI X.K c.pa G1 H1 L P i H') (ht : ∀ acc, P acc → Turn X c scope ifs elt ⟨(wipeA A.ρ [j]).set j (.dat d), A.μ⟩ acc P') :
    L2.wipe ((L2.wipe σ [j]).set j (some x)) [j] = L2.wipe σ [j] ∧ bT X scope ifs ((L2.wipe σ [j]).set j (some x)) H' fun b H3 => if b = true then bE X scope elt ((L2.wipe σ [j]).set j (some x)) H3 fun y H4 => ∃ acc, H4 L = some (.lst acc) ∧ acc.length < sizeLine ∧ LcI X.K c.pa G1 H1 L P' (i + 1) (upd H4 L (.lst (acc ++ [y]))) else LcI X.K c.pa G1 H1 L P' (i + 1) H3 := by
  refine ⟨wipe_put, lc_turn S hL rd hi h (fun acc hp G' H2 S2 s0 H0 C cl fp => ?_) (fun _ _ _ _ h k s0 H0 C cl fp => wTs_mono (h s0 H0 C cl fp) k) (fun _ _ _ _ h k s0 H0 C cl fp => wE_mono (h s0 H0 C cl fp) k)⟩
  exact wTs_mono (ht acc hp s0 H0 C cl fp G' ps _ H2 S2) fun k H3 ⟨G3, s3, q1, q2⟩ => ⟨G3, s3, fun hk s1 H1 C1 cl1 fp1 => q1 hk s1 H1 C1 cl1 fp1 G3 ps _ H3 (S2.step s3), q2⟩
def LcW (X : Cx) (c : Ct) (G H : Hp) (Q : List PyData → Prop) : VK := fun v H' => ∃ G' ds, Stp X.K c.pa G H G' H' ∧ ROk X.K G' H H' v (.L ds) ∧ Q ds
theorem lc_end {G H G1 H1 : Hp} {L : Addr} {P Q : List PyData → Prop} {n : Nat} {H' : Hp} (s1 : Stp X.K c.pa G H G1 H1) (hL : H1 L = none) (h : LcI X.K c.pa G1 H1 L P n H') (q : ∀ acc, P acc → Q acc) : LcW X c G H Q (.ref L) H' := by
  obtain ⟨G', xs, acc, s, hx, hg, ha, hl, hp⟩ := h
  refine ⟨G', acc, s1.trans s, ⟨L, xs, rfl, ?_, hg, hx, ha⟩, q acc hp⟩
  cases q2 : H L with
  | none => rfl
  | some o => exact absurd hL (s1.live L (by rw [q2]; exact fun z => nomatch z))
theorem lc_start {G1 H1 : Hp} {L : Addr} {P : List PyData → Prop} {σ : L2.St} {ps : List Addr} (S : St X.K c A G1 ps σ H1) (hL : H1 L = none) (p0 : P []) : LcI X.K c.pa G1 H1 L P 0 (upd H1 L (.lst [])) :=
  ⟨G1, [], [], S.refl.lay hL, upd_same, Evl.fresh_back S.st.sub hL, .nil, Nat.zero_le _, p0⟩
/-- what is asked of a comprehension over a list, over a tuple, over a range -/
abbrev LcL (X : Cx) (c : Ct) (scope : Scope) (it : Expr) (ifs : List Expr) (elt : Expr) (j : Nat) (A : AS) (P : Nat → List PyData → Prop) (Q : List PyData → Prop) : Prop :=
  WE X c it A fun d => ∃ ds, d = .list ds ∧ ds.length ≤ 40000 ∧ P 0 [] ∧ (∀ i x acc, ds[i]? = some x → P i acc → Turn X c scope ifs elt ⟨(wipeA A.ρ [j]).set j (.dat x), A.μ⟩ acc (P (i + 1))) ∧ ∀ acc, P ds.length acc → Q acc
theorem lc_readL {scope : Scope} {it elt : Expr} {ifs : List Expr} {j : Nat} {P : Nat → List PyData → Prop} {Q : List PyData → Prop} {G : Hp} {ps : List Addr} {σ : L2.St} {H : Hp} (h : LcL X c scope it ifs elt j A P Q) (S : St X.K c A G ps σ H) :
    tLc (iList X.K (wE X it)) (gName j) (bT X scope ifs) (bE X scope elt) [j] σ H (LcW X c G H Q) :=
  wE_mono (h G ps σ H S) fun v H1 ⟨G1, d, s1, r1, ds, e1, hz, p0, ht, hd⟩ => by
    subst e1
    obtain ⟨p, xs, rfl, hx, ha⟩ := dp_list r1
    have S1 := S.step s1
    refine ⟨p, rfl, ⟨xs, Evl.ex_l s1.sub hx⟩, fun L hL => ?_⟩
    refine lc_list (xs := xs) (fun i H' => LcI X.K c.pa G1 H1 L (P i) i H') (lc_start S1 hL p0) (fun i H' _ q => ?_) (fun i x H' hxi q => ?_) fun H' q => ?_
    · obtain ⟨G', _, _, s, _⟩ := q
      exact Evl.ex_l (s.ex.trans s.sub) hx
    · obtain ⟨dx, hdx, rdx⟩ := dall_getV ha hxi
      have hi : i < xs.length := (List.getElem?_eq_some_iff.mp hxi).1
      rw [dall_len ha] at hi
      exact turn_ok S1 hL rdx (by omega) q fun acc hp => ht i dx acc hdx hp
    · rw [dall_len ha] at q
      exact lc_end s1 hL q hd
abbrev LcT (X : Cx) (c : Ct) (scope : Scope) (it : Expr) (ifs : List Expr) (elt : Expr) (j : Nat) (A : AS) (P : Nat → List PyData → Prop) (Q : List PyData → Prop) : Prop :=
  WE X c it A fun d => ∃ ds, d = .tuple ds ∧ ds.length ≤ 40000 ∧ P 0 [] ∧ (∀ i x acc, ds[i]? = some x → P i acc → Turn X c scope ifs elt ⟨(wipeA A.ρ [j]).set j (.dat x), A.μ⟩ acc (P (i + 1))) ∧ ∀ acc, P ds.length acc → Q acc
theorem lc_readT {scope : Scope} {it elt : Expr} {ifs : List Expr} {j : Nat} {P : Nat → List PyData → Prop} {Q : List PyData → Prop} {G : Hp} {ps : List Addr} {σ : L2.St} {H : Hp} (h : LcT X c scope it ifs elt j A P Q) (S : St X.K c A G ps σ H) :
    tLc (iTup X.K (wE X it)) (gName j) (bT X scope ifs) (bE X scope elt) [j] σ H (LcW X c G H Q) :=
  wE_mono (h G ps σ H S) fun v H1 ⟨G1, d, s1, r1, ds, e1, hz, p0, ht, hd⟩ => by
    subst e1
    obtain ⟨p, xs, rfl, hx, ha⟩ := dp_tup r1
    have S1 := S.step s1
    refine ⟨p, rfl, ⟨xs, Evl.ex_t s1.sub hx⟩, fun L hL => ?_⟩
    refine lc_tup (xs := xs) (fun i H' => LcI X.K c.pa G1 H1 L (P i) i H') (lc_start S1 hL p0) (fun i H' _ q => ?_) (fun i x H' hxi q => ?_) fun H' q => ?_
    · obtain ⟨G', _, _, s, _⟩ := q
      exact Evl.ex_t (s.ex.trans s.sub) hx
    · obtain ⟨dx, hdx, rdx⟩ := dall_getV ha hxi
      have hi : i < xs.length := (List.getElem?_eq_some_iff.mp hxi).1
      rw [dall_len ha] at hi
      exact turn_ok S1 hL rdx (by omega) q fun acc hp => ht i dx acc hdx hp
    · rw [dall_len ha] at q
      exact lc_end s1 hL q hd
abbrev LcR (X : Cx) (c : Ct) (scope : Scope) (it : Expr) (ifs : List Expr) (elt : Expr) (j : Nat) (A : AS) (P : Nat → List PyData → Prop) (Q : List PyData → Prop) : Prop :=
  WE X c it A fun d => ∃ m, d = .int m ∧ m ≤ 40000 ∧ -(2 ^ 61) < m ∧ P 0 [] ∧ (∀ (i : Nat) acc, (i : Int) < m → P i acc → Turn X c scope ifs elt ⟨(wipeA A.ρ [j]).set j (.dat (.int i)), A.μ⟩ acc (P (i + 1))) ∧ ∀ acc, P m.toNat acc → Q acc
theorem lc_readR {scope : Scope} {it elt : Expr} {ifs : List Expr} {j : Nat} {P : Nat → List PyData → Prop} {Q : List PyData → Prop} {G : Hp} {ps : List Addr} {σ : L2.St} {H : Hp} (h : LcR X c scope it ifs elt j A P Q) (S : St X.K c A G ps σ H) :
    tLc (iRng1 (tCons (wE X it) tNil)) (gName j) (bT X scope ifs) (bE X scope elt) [j] σ H (LcW X c G H Q) :=
  wE_mono (h G ps σ H S) fun v H1 ⟨G1, d, s1, r1, m, e1, b1, b2, p0, ht, hd⟩ => by
    subst e1
    have S1 := S.step s1
    refine ⟨m, by rw [dp_int r1], by omega, by omega, fun L hL => ?_⟩
    refine lc_range (n := m.toNat) (fun i H' => LcI X.K c.pa G1 H1 L (P i) i H') (lc_start S1 hL p0) (fun i H' hxi q => ?_) fun H' q => ?_
    · have ei : (0 : Int) + (i : Int) = (i : Int) := Int.zero_add _
      rw [ei]
      exact turn_ok S1 hL (.int _) (by omega) q fun acc hp => ht i acc (by omega) hp
    · exact lc_end s1 hL q hd
variable {scope : Scope} {it elt : Expr} {ifs : List Expr} {j : Nat} {x : Str} {P : Nat → List PyData → Prop} {Ql : List PyData → Prop} {px : Pos}
theorem bE_ok {s : Shared} {H : Hp} {C : Addr} {cl : List (Str × Addr)} {fp : List Addr} : PE (X.blk s H scope (compEnvC scope cl C X.env) fp) elt (bE X scope elt) := ⟨fun pins s0 _ _ _ I h => h s H C cl fp pins s0 I⟩
theorem bT_ok {s : Shared} {H : Hp} {C : Addr} {cl : List (Str × Addr)} {fp : List Addr} : PTs (X.blk s H scope (compEnvC scope cl C X.env) fp) ifs (bT X scope ifs) := ⟨fun pins s0 _ _ _ I h => h s H C cl fp pins s0 I⟩
theorem wl_lcL (ok : BlkOk X.N X.env.scope scope [(x, j)]) (h : LcL X c scope it ifs elt j A P Ql) (nd : X.N.Nodup) (hg : ∀ (s : Shared) (H : Hp) (C : Addr) (cl : List (Str × Addr)) (fp : List Addr), PG (X.blk s H scope (compEnvC scope cl C X.env) fp) (.Name x px) (gName j))
    (hc : X.calm = true := by rfl) (hs : ∀ x, foldedSetIterable it X.env x = pure x := by intro _; rfl) : WL X c (.ListComp elt [⟨.Name x px, it, ifs, 0⟩] scope pos) A Ql := fun G ps σ H S =>
  wE_of (pe_lc hc nd (pi_list pe_w) ok hg (fun _ _ _ _ _ => bT_ok) (fun _ _ _ _ _ => bE_ok) hs) (lc_readL h S)
theorem wl_lcT (ok : BlkOk X.N X.env.scope scope [(x, j)]) (h : LcT X c scope it ifs elt j A P Ql) (nd : X.N.Nodup) (hg : ∀ (s : Shared) (H : Hp) (C : Addr) (cl : List (Str × Addr)) (fp : List Addr), PG (X.blk s H scope (compEnvC scope cl C X.env) fp) (.Name x px) (gName j))
    (hc : X.calm = true := by rfl) (hs : ∀ x, foldedSetIterable it X.env x = pure x := by intro _; rfl) : WL X c (.ListComp elt [⟨.Name x px, it, ifs, 0⟩] scope pos) A Ql := fun G ps σ H S =>
  wE_of (pe_lc hc nd (pi_tup pe_w) ok hg (fun _ _ _ _ _ => bT_ok) (fun _ _ _ _ _ => bE_ok) hs) (lc_readT h S)
theorem wl_lcR {p2 : Pos} (hm : X.mg "range" = none) (ok : BlkOk X.N X.env.scope scope [(x, j)]) (h : LcR X c scope it ifs elt j A P Ql) (nd : X.N.Nodup) (hg : ∀ (s : Shared) (H : Hp) (C : Addr) (cl : List (Str × Addr)) (fp : List Addr), PG (X.blk s H scope (compEnvC scope cl C X.env) fp) (.Name x px) (gName j))
    (hc : X.calm = true := by rfl) (hgl : Gl X "range" := by rfl) (hst : starEach [it] X.env = (false, eval it X.env) :: starEach [] X.env := by rfl) (hst2 : starEach [it] X.env = [(false, eval it X.env)] := by rfl) (hs : ∀ x, foldedSetIterable (.Call (.Name "range" p) [it] [] p2) X.env x = pure x := by intro _; rfl) : WL X c (.ListComp elt [⟨.Name x px, .Call (.Name "range" p) [it] [] p2, ifs, 0⟩] scope pos) A Ql := fun G ps σ H S =>
  wE_of (pe_lc hc nd (pi_range1 hgl hm (pa_cons pe_w pa_nil hst) hst2) ok hg (fun _ _ _ _ _ => bT_ok) (fun _ _ _ _ _ => bE_ok) hs) (lc_readR h S)
/-- y = [..] -/
theorem setLc_end {i : Nat} {G : Hp} {ps : List Addr} {σ : L2.St} {H : Hp} (S : St X.K c A G ps σ H) {v : V} {H' : Hp} (h : LcW X c G H (fun ds => D.nx ⟨A.ρ.set i (.own A.μ.length), A.μ ++ [some ds]⟩) v H') : (ends X.K c G D).nx (σ.set i (some v)) H' := by
  obtain ⟨G', ds, s, ⟨p, xs, e1, h0, hg, hp, hd⟩, q⟩ := h
  subst e1
  have S' := S.step s
  refine ⟨_, G', ps ++ [p], s.ex, S'.putM ?_ (fun hm => absurd h0 (S.new p hm).2) hg hp hd, q⟩
  cases q2 : c.H0 p with
  | none => rfl
  | some o => exact absurd h0 (S.st.live p (by rw [q2]; exact fun z => nomatch z))
theorem tLc_mono {wi : TI} {g : TG} {tt : TT} {te : TE} {vs : List Nat} {σ : L2.St} {H : Hp} {Q Q' : VK} (hw : ∀ σ H (R R' : It → Hp → Prop), wi σ H R → (∀ J H', R J H' → R' J H') → wi σ H R') (h : tLc wi g tt te vs σ H Q) (k : ∀ v H', Q v H' → Q' v H') : tLc wi g tt te vs σ H Q' :=
  hw σ H _ _ h fun J H1 r D hD => by
    obtain ⟨W, w0, hW⟩ := r D hD
    refine ⟨W, w0, fun i m H' w => ?_⟩
    rcases hW i m H' w with ⟨z, q⟩ | z
    · exact .inl ⟨z, k _ _ q⟩
    · exact .inr z
theorem ws_lcL {i : Nat} {y : Str} {py spos : Pos} (ok : BlkOk X.N X.env.scope scope [(x, j)]) (h : LcL X c scope it ifs elt j A P fun ds => D.nx ⟨A.ρ.set i (.own A.μ.length), A.μ ++ [some ds]⟩) (nd : X.N.Nodup) (hg : ∀ (s : Shared) (H : Hp) (C : Addr) (cl : List (Str × Addr)) (fp : List Addr), PG (X.blk s H scope (compEnvC scope cl C X.env) fp) (.Name x px) (gName j))
    (hy : X.N[i]? = some y := by rfl) (hyl : X.env.scope.names.lookup y = some .local := by rfl) (hsw : swapsWith (.ListComp elt [⟨.Name x px, it, ifs, 0⟩] scope pos) (some (.Name y py)) spos.line X.env = pure true := by exact sw_true rfl rfl rfl (by decide +kernel)) (hc : X.calm = true := by rfl) (hs : ∀ x, foldedSetIterable it X.env x = pure x := by intro _; rfl) :
    WS X c (.Assign [.Name y py] (.ListComp elt [⟨.Name x px, it, ifs, 0⟩] scope pos) spos) A D := fun G ps σ H S =>
  wS_of (ps_setLc hc nd hy hyl hsw (pi_list pe_w) ok hg (fun _ _ _ _ _ => bT_ok) (fun _ _ _ _ _ => bE_ok) hs) (tLc_mono (fun σ H R R' h k => wE_mono h fun v H' ⟨a, e, l, r⟩ => ⟨a, e, l, k _ _ r⟩) (lc_readL h S) fun v H' q => setLc_end S q)
theorem ws_lcT {i : Nat} {y : Str} {py spos : Pos} (ok : BlkOk X.N X.env.scope scope [(x, j)]) (h : LcT X c scope it ifs elt j A P fun ds => D.nx ⟨A.ρ.set i (.own A.μ.length), A.μ ++ [some ds]⟩) (nd : X.N.Nodup) (hg : ∀ (s : Shared) (H : Hp) (C : Addr) (cl : List (Str × Addr)) (fp : List Addr), PG (X.blk s H scope (compEnvC scope cl C X.env) fp) (.Name x px) (gName j))
    (hy : X.N[i]? = some y := by rfl) (hyl : X.env.scope.names.lookup y = some .local := by rfl) (hsw : swapsWith (.ListComp elt [⟨.Name x px, it, ifs, 0⟩] scope pos) (some (.Name y py)) spos.line X.env = pure true := by exact sw_true rfl rfl rfl (by decide +kernel)) (hc : X.calm = true := by rfl) (hs : ∀ x, foldedSetIterable it X.env x = pure x := by intro _; rfl) :
    WS X c (.Assign [.Name y py] (.ListComp elt [⟨.Name x px, it, ifs, 0⟩] scope pos) spos) A D := fun G ps σ H S =>
  wS_of (ps_setLc hc nd hy hyl hsw (pi_tup pe_w) ok hg (fun _ _ _ _ _ => bT_ok) (fun _ _ _ _ _ => bE_ok) hs) (tLc_mono (fun σ H R R' h k => wE_mono h fun v H' ⟨a, e, l, r⟩ => ⟨a, e, l, k _ _ r⟩) (lc_readT h S) fun v H' q => setLc_end S q)
theorem ws_lcR {i : Nat} {y : Str} {py spos p2 : Pos} (hm : X.mg "range" = none) (ok : BlkOk X.N X.env.scope scope [(x, j)]) (h : LcR X c scope it ifs elt j A P fun ds => D.nx ⟨A.ρ.set i (.own A.μ.length), A.μ ++ [some ds]⟩) (nd : X.N.Nodup) (hg : ∀ (s : Shared) (H : Hp) (C : Addr) (cl : List (Str × Addr)) (fp : List Addr), PG (X.blk s H scope (compEnvC scope cl C X.env) fp) (.Name x px) (gName j))
    (hy : X.N[i]? = some y := by rfl) (hyl : X.env.scope.names.lookup y = some .local := by rfl) (hsw : swapsWith (.ListComp elt [⟨.Name x px, .Call (.Name "range" p) [it] [] p2, ifs, 0⟩] scope pos) (some (.Name y py)) spos.line X.env = pure true := by exact sw_true rfl rfl rfl (by decide +kernel)) (hc : X.calm = true := by rfl)
    (hgl : Gl X "range" := by rfl) (hst : starEach [it] X.env = (false, eval it X.env) :: starEach [] X.env := by rfl) (hst2 : starEach [it] X.env = [(false, eval it X.env)] := by rfl) (hs : ∀ x, foldedSetIterable (.Call (.Name "range" p) [it] [] p2) X.env x = pure x := by intro _; rfl) :
    WS X c (.Assign [.Name y py] (.ListComp elt [⟨.Name x px, .Call (.Name "range" p) [it] [] p2, ifs, 0⟩] scope pos) spos) A D := fun G ps σ H S =>
  wS_of (ps_setLc hc nd hy hyl hsw (pi_range1 hgl hm (pa_cons pe_w pa_nil hst) hst2) ok hg (fun _ _ _ _ _ => bT_ok) (fun _ _ _ _ _ => bE_ok) hs) (tLc_mono (fun σ H R R' h k => wE_mono h fun v H' ⟨j, e1, e2, e3, r⟩ => ⟨j, e1, e2, e3, k _ _ r⟩) (lc_readR h S) fun v H' q => setLc_end S q)
end

/-! ### names by facts about the list of names -/
section
variable {X : Cx} {c : Ct} {A : AS} {e a b : Expr} {es : List Expr} {pos p : Pos} {Q : PyData → Prop} {st : Stmt} {D : ADs} {N : List Str}
theorem we_nm {i : Nat} {x : Str} {d : PyData} (hN : N[i]? = some x) (eN : X.N = N) (hρ : A.ρ[i]? = some (.dat d)) (hv : Vis X.env.scope x) (hd : ((x == ("__debug__" : Str)) = false) ∧ (x == ("__classdict__" : Str)) = false) (q : Q d) : WE X c (.Name x pos) A Q :=
  we_name hρ q (by rw [eN]; exact hN) hv hd.1 hd.2
theorem wa_pl {Q : List AV → Prop} {x : Str} {i : Nat} (hN : N[i]? = some x) (eN : X.N = N) (hρ : A.ρ[i]? = some .pool) (hv : Vis X.env.scope x) (hd : ((x == ("__debug__" : Str)) = false) ∧ (x == ("__classdict__" : Str)) = false) (hs : starEach (.Name x pos :: es) X.env = (false, eval (.Name x pos) X.env) :: starEach es X.env) (h : WA X c es A fun as => Q (.pool :: as)) : WA X c (.Name x pos :: es) A Q :=
  wa_pool hρ h (by rw [eN]; exact hN) hv hd.1 hd.2 hs
theorem ws_as {i : Nat} {x : Str} {px : Pos} (hN : N[i]? = some x) (eN : X.N = N) (hnd : N.Nodup) (hx : Loc X.env.scope x) (hf : X.fn x = true ∨ X.env.scope.names.lookup x = some .local)
    (hs : swapsWithSole [.Name x px] e pos.line X.env = pure false) (hw : swappedStores [.Name x px] e X.env = pure none) (h1 : (assignEach [.Name x px] X.env).map (·.2) = [assign (.Name x px) X.env]) (h : WE X c e A fun d => D.nx ⟨A.ρ.set i (.dat d), A.μ⟩) : WS X c (.Assign [.Name x px] e pos) A D :=
  ws_asg h (by rw [eN]; exact hN) (by rw [eN]; exact hnd) hx hf hs hw h1
theorem ws_asL {i : Nat} {x : Str} {px : Pos} (hN : N[i]? = some x) (eN : X.N = N) (hnd : N.Nodup) (hx : Loc X.env.scope x) (hf : X.fn x = true ∨ X.env.scope.names.lookup x = some .local)
    (hs : swapsWithSole [.Name x px] e pos.line X.env = pure false) (hw : swappedStores [.Name x px] e X.env = pure none) (h1 : (assignEach [.Name x px] X.env).map (·.2) = [assign (.Name x px) X.env]) (h : WL X c e A fun ds => D.nx ⟨A.ρ.set i (.own A.μ.length), A.μ ++ [some ds]⟩) : WS X c (.Assign [.Name x px] e pos) A D :=
  ws_asgL h (by rw [eN]; exact hN) (by rw [eN]; exact hnd) hx hf hs hw h1
theorem ws_au {i : Nat} {x : Str} {px : Pos} {op : Operator} {d0 : PyData} (hN : N[i]? = some x) (eN : X.N = N) (hnd : N.Nodup) (hρ : A.ρ[i]? = some (.dat d0)) (hx : Loc X.env.scope x) (hf : X.fn x = true ∨ X.env.scope.names.lookup x = some .local)
    (h : WE X c e A fun d1 => OpD X c (inplaceOp op) d0 d1 fun d => D.nx ⟨A.ρ.set i (.dat d), A.μ⟩) : WS X c (.AugAssign (.Name x px) op e pos) A D :=
  ws_aug hρ h (by rw [eN]; exact hN) (by rw [eN]; exact hnd) hx hf
theorem ws_ap {i k : Nat} {x : Str} {px apos cpos : Pos} {ds : List PyData} (hN : N[i]? = some x) (eN : X.N = N) (hρ : A.ρ[i]? = some (.own k)) (hm : A.μ[k]? = some (some ds)) (hz : ds.length < 100000) (hv : Vis X.env.scope x) (hd : ((x == ("__debug__" : Str)) = false) ∧ (x == ("__classdict__" : Str)) = false)
    (hbase : attributeBase (.Name x px) "append" X.env (eval (.Name x px) X.env) = eval (.Name x px) X.env)
    (hfew : ((backTo cpos (starEach [e] X.env)).all (fun x => !x.1) && (backToKw cpos (keywordEach [] X.env)).all (fun x => x.1.isSome) && decide ([e].length + ([] : List Keyword).length + (if ([] : List Keyword).isEmpty then 0 else 1) < 30)) = true)
    (hline : (apos.endLine == cpos.line) = true) (hs : starEach [e] X.env = (false, eval e X.env) :: starEach [] X.env) (hplain : (backTo cpos (starEach [] X.env)).any (·.1) = false)
    (hsw : swapsWith (.Call (.Attribute (.Name x px) "append" apos) [e] [] cpos) none pos.line X.env = pure false)
    (h : WE X c e A fun d => D.nx ⟨A.ρ, A.μ.set k (some (ds ++ [d]))⟩) : WS X c (.Expr (.Call (.Attribute (.Name x px) "append" apos) [e] [] cpos) pos) A D :=
  ws_app hρ hm hz h (by rw [eN]; exact hN) hv hd.1 hd.2 hbase hfew hline hs hplain hsw
theorem wg_nm {i : Nat} {x : Str} {d : PyData} {P : AS → Prop} (hN : N[i]? = some x) (eN : X.N = N) (hnd : N.Nodup) (hx : Loc X.env.scope x) (hf : X.fn x = true ∨ X.env.scope.names.lookup x = some .local) (q : P ⟨A.ρ.set i (.dat d), A.μ⟩) : WG X c (.Name x pos) d A P :=
  wg_name q (by rw [eN]; exact hN) (by rw [eN]; exact hnd) hx hf
theorem ws_rO {i k : Nat} {x : Str} {px : Pos} {ds : List PyData} (hN : N[i]? = some x) (eN : X.N = N) (hρ : A.ρ[i]? = some (.own k)) (hm : A.μ[k]? = some (some ds)) (hv : Vis X.env.scope x) (hd : ((x == ("__debug__" : Str)) = false) ∧ (x == ("__classdict__" : Str)) = false) (q : D.rt (.L ds) A) : WS X c (.Return (some (.Name x px)) pos) A D :=
  ws_retO hρ hm q (by rw [eN]; exact hN) hv hd.1 hd.2
theorem we_iO {i k : Nat} {x : Str} {px : Pos} {ds : List PyData} (hN : N[i]? = some x) (eN : X.N = N) (hρ : A.ρ[i]? = some (.own k)) (hm : A.μ[k]? = some (some ds)) (hv : Vis X.env.scope x) (hd : ((x == ("__debug__" : Str)) = false) ∧ (x == ("__classdict__" : Str)) = false) (hpl : PlainIx b)
    (h : WE X c b A fun d2 => ∃ j d, d2 = .int j ∧ atI ds j = some d ∧ Q d) : WE X c (.Subscript (.Name x px) b pos) A Q :=
  we_ixO hρ hm h (by rw [eN]; exact hN) hv hd.1 hd.2 hpl
theorem we_lO {i k : Nat} {x : Str} {px : Pos} {ds : List PyData} (hm0 : X.mg "len" = none) (hN : N[i]? = some x) (eN : X.N = N) (hρ : A.ρ[i]? = some (.own k)) (hm : A.μ[k]? = some (some ds)) (hv : Vis X.env.scope x) (hd : ((x == ("__debug__" : Str)) = false) ∧ (x == ("__classdict__" : Str)) = false) (hg : Gl X "len")
    (he : starEach [.Name x px] X.env = (false, eval (.Name x px) X.env) :: starEach [] X.env) (hpl : (backTo pos (starEach [] X.env)).any (·.1) = false) (q : Q (.int ds.length)) : WE X c (.Call (.Name "len" p) [.Name x px] [] pos) A Q :=
  we_lenO hm0 hρ hm q (by rw [eN]; exact hN) hv hd.1 hd.2 hg he hpl
end
/-! ### a def by data -/
def svOf : AV → SV
  | .dat d => .dat d
  | .pool => .pool
def entry (N : List Str) (as : List AV) : AS := ⟨as.map svOf ++ List.replicate (N.length - as.length) .any, []⟩
theorem start_ok {K : PySem.W.Frag} {pa : Option Addr} {G H : Hp} {N : List Str} {vs : List V} {as : List AV} (s : Stp K pa G H G H) (h : AsOk K pa G vs as) : St K ⟨H, G, pa, []⟩ (entry N as) G [] (start N vs) H where
  st := s
  len := by
    have e := h.len
    simp [L2.start, entry, e]
  sl := fun i sv e => by
    have e' : (as.map svOf ++ List.replicate (N.length - as.length) SV.any)[i]? = some sv := e
    show SlotOk K pa G [] (vs.map some ++ List.replicate (N.length - vs.length) none)[i]? sv
    have hl := h.len
    by_cases l : i < as.length
    · rw [List.getElem?_append_left (by rw [List.length_map]; exact l), List.getElem?_map] at e'
      rw [List.getElem?_append_left (by rw [List.length_map, hl]; exact l), List.getElem?_map]
      have get : ∀ {vs : List V} {as : List AV} {i : Nat} {a : AV}, AsOk K pa G vs as → as[i]? = some a → ∃ v, vs[i]? = some v ∧ AOk K pa G v a := by
        intro vs
        induction vs with
        | nil => intro as i a h e; cases as with
          | nil => simp at e
          | cons _ _ => exact h.elim
        | cons v vs ih => intro as i a h e; cases as with
          | nil => exact h.elim
          | cons b as => cases i with
            | zero => simp at e; subst e; exact ⟨v, rfl, h.1⟩
            | succ i => exact (ih h.2 (by simpa using e)) |>.imp fun w hw => ⟨by simpa using hw.1, hw.2⟩
      cases q : as[i]? with
      | none => rw [q] at e'; cases e'
      | some a =>
        rw [q] at e'
        have e2 : svOf a = sv := Option.some.inj e'
        subst e2
        obtain ⟨v, hv, ha⟩ := get h q
        rw [hv]
        cases a with
        | dat d => exact ⟨v, rfl, ha⟩
        | pool =>
          obtain ⟨p, hp, e3⟩ := ha
          subst e3
          exact ⟨p, hp, rfl⟩
    · rw [List.getElem?_append_right (by rw [List.length_map]; omega), List.getElem?_replicate] at e'
      split at e'
      · have e2 : SV.any = sv := Option.some.inj e'
        subst e2
        exact True.intro
      · cases e'
  mlen := rfl
  inj := fun i j p hi => by simp at hi
  pre := fun i p hi => by simp at hi
  new := fun p hp => by simp at hp
  mu := fun k p ds hk => by simp at hk
theorem def_ok {P : Program} {w : World} {K : PySem.W.Frag} {mg : Str → Option Value} {base : Heap} {x qual : Str} {st : Stmt} {f : Addr} {fd : FuncData} {N ps : List Str} {k n : Nat} {sp : DSpec} (F : Fun K x qual st f fd) (S : FnScope N ps (defScope st)) (hn : n = ps.length)
    (body : ∀ (cdv : Value) (A : Around) (outer : List Env) (s : Shared) (H : Hp) (E : XK) (c : Ct) (as : List AV) (R : RV → Prop), Room k (A.deeper (envOfC qual (defScope st) s.heap.objs.size f cdv)) → as.length = n → sp as R →
      WB (cxOf CX0 P w K mg base N qual (defScope st) f cdv A outer s H E).nox c (defBody st) (entry N as) { nx := fun _ => R (.D .none), rt := fun r _ => R r }) : FnOk P w K mg base CX0 (k + 1) f fd ps (lift K n sp) := by
  refine F.ok S (fun vs H Q E h => ?_) (fun cdv A outer s H vs Q E hr h => ?_)
  · obtain ⟨G, pa, as, s, h, hl, _⟩ := h
    rw [h.len, hl, hn]
  · obtain ⟨G, pa, as, st0, h, hl, q⟩ := h
    refine ⟨_, pss_w, ?_⟩
    refine wB_mono (body cdv A outer s H E ⟨H, G, pa, []⟩ as _ hr hl q G [] _ H (start_ok st0 h)) ?_ ?_ (fun _ _ z => ?_) fun _ _ z => ?_
    · rintro σ' H' ⟨A', G', ps', e', S', r⟩
      exact r .non G' H' S'.st .non
    · rintro v H' ⟨r, A', G', ps', σ', S', ro, q'⟩
      exact q' v G' H' S'.st ro
    · obtain ⟨_, _, _, _, _, z⟩ := z
      exact z
    · obtain ⟨_, _, _, _, _, z⟩ := z
      exact z
end Eng

set_option Elab.async false
set_option linter.all false
set_option maxRecDepth 100000
set_option maxHeartbeats 2000000
namespace Eng
open PySem PySem.Spec PyProof.Rows L2
open Builtin
/-- the binary digits of an int that is not negative, as a text -/
def binS (n : Nat) : Str := ⟨((Nat.toDigits 2 n).map Char.toNat).toArray⟩
def bF : Builtin.Float.FormatSpec := { fill := 32, align := 62, type := some 98 }
theorem bF_parse : Builtin.Float.parseFormatSpec (Str.ofString "b").cps.toList "int" 62 = .ok bF := by rfl
theorem bin_text (n : Nat) : ({ cps := ((if (n : Int) < 0 then [45] else []) ++ List.map (fun c : Char => c.toNat) (Nat.toDigits 2 n)).toArray } : Str) = binS n := by
  rw [if_neg (by omega)]
  rfl
theorem le_of_str {a b : Str} {n : Nat} (e : a = b) (h : b.length ≤ n) : a.length ≤ n := by rw [e]; exact h
section
variable {prog : Program} {w : World} {A : Around} {E : Value → Shared → Prop} {s : Shared}
theorem formatField_bin {n : Nat} {t : Tok} {Q : Value → Shared → Prop} (hlen : (binS n).length ≤ sizeLine) (h : ∀ t' k, Q (.str (binS n) t') { s with toks := k }) : wpAny (model prog w) A (formatField (.int (n : Int) t) (Str.ofString "b")) Q E s := by
  have hne : ((Str.ofString "b").length == 0) = false := by decide +kernel
  have hasc : (((Str.ofString "b").cps.toList.drop 1).any (· ≥ 128) || ((Str.ofString "b").cps.getD 0 0 ≥ 128 && !([60, 62, 61, 94] : List Nat).contains ((Str.ofString "b").cps.getD 1 0))) = false := by decide +kernel
  show wpAny _ _ (holding [.int (n : Int) t] (pyFormat (.int (n : Int) t) (Str.ofString "b"))) Q E s
  refine wpAny_holding ?_
  unfold pyFormat
  refine wpAny_bind (wpAny_mkStr ?_ (by decide +kernel))
  refine wpAny_bind (m := callSpecial? (.int (n : Int) t) (Str.ofString "__format__") [.str (Str.ofString "b") s.toks]) (wpAny_callSpecial?_slot (name := Str.ofString "__format__") (typeIs_int _ _ t) slot_int_format ?_)
  refine wpAny_call (codeAny_call_builtin slot_int_format.plain entry_int_format (slot_int_format.check _ _ _ _ _ _ _ _ (typeIs_int _ _ t) (args_int_format _ _) ?_))
  unfold Builtin.«int.__format__»
  simp only [selfAndOne, noKeywords, Int.intOfSelf, asInt?, asStr?, List.isEmpty_nil, if_true, pure_bind, bind_pure, bind_assoc, hne, hasc, Bool.false_eq_true, if_false,
    show (Value.str (Str.ofString "b") s.toks == Value.none) = false from rfl]
  refine wpAny_bind (wpAny_typeNameOf (T := "str") (typeIs_str _ _ _) (by decide) fun _ => ?_)
  refine wpAny_bind (wpAny_typeNameOfCut_int ?_)
  simp only [bF_parse]
  rw [if_pos (by decide +kernel)]
  show wpAny _ _ (retStr _) _ _ _
  unfold retStr
  refine wpAny_bind (wpAny_mkStr (wpAny_pure ?_) ?hs2)
  case hs2 =>
    refine le_of_str ?_ hlen
    conv => lhs; whnf
    simp [bF]
    exact bin_text n
  dsimp only
  refine wpAny_bind (wpAny_isInstance (typeIs_str _ _ _) isSubtype_str_str (wpAny_pure ?_))
  refine (show ∀ z, z = binS n → Q (.str z _) _ from fun z e => by rw [e]; exact h _ _) _ ?_
  conv => lhs; whnf
  simp [bF]
  exact bin_text n
end
/-! ### how many ones -/
open StrLaws in
theorem occ_go (x : Str) (c : Nat) : ∀ (n lo : Nat) (acc : Array Nat) (free : Nat), lo + n = x.length + 1 → acc.size ≤ lo → free ≤ lo →
    (forIn (List.range' lo n) (acc, free) (occBody x ⟨#[c]⟩ x.length (x.length + 1))).run.fst.size = acc.size + (x.cps.toList.drop lo).count c
  | 0, lo, acc, free, h, _, _ => by
    have hl : x.cps.toList.length = x.length := by simp [Str.length]
    rw [List.drop_eq_nil_of_le (by omega)]
    rfl
  | n + 1, lo, acc, free, h, h1, h2 => by
    have hl : x.cps.toList.length = x.length := by simp [Str.length]
    rw [List.range'_succ, List.forIn_cons]
    unfold occBody
    have key := subAt_one x c lo
    by_cases hc : x.cps.toList[lo]? = some c
    · obtain ⟨k1, k2⟩ := key.mpr hc
      rw [if_pos ⟨⟨⟨show acc.size < x.length + 1 by omega, h2⟩, k1⟩, k2⟩]
      have hlt : lo < x.cps.toList.length := (List.getElem?_eq_some_iff.mp hc).1
      have hg : x.cps.toList[lo] = c := by
        rw [List.getElem?_eq_getElem hlt] at hc
        exact Option.some.inj hc
      have ih := occ_go x c n (lo + 1) (acc.push lo) (lo + (⟨#[c]⟩ : Str).length) (by omega) (by rw [Array.size_push]; omega) (Nat.le_refl _)
      rw [List.drop_eq_getElem_cons hlt, hg, List.count_cons_self]
      rw [Array.size_push] at ih
      refine Eq.trans ih ?_
      omega
    · rw [if_neg (fun z => hc (key.mp ⟨z.1.2, z.2⟩))]
      have ih := occ_go x c n (lo + 1) acc free (by omega) (by omega) (by omega)
      refine Eq.trans ih ?_
      by_cases hlt : lo < x.cps.toList.length
      · rw [List.drop_eq_getElem_cons hlt, List.count_cons_of_ne (fun z => hc (by rw [List.getElem?_eq_getElem hlt, z]))]
      · rw [List.drop_eq_nil_of_le (by omega), List.drop_eq_nil_of_le (by omega)]
theorem count_one (x : Str) (c : Nat) : Txt.count x ⟨#[c]⟩ = (x.cps.toList.count c : Nat) := by
  unfold Txt.count
  rw [StrLaws.occ_eq, ← Array.size_eq_length_toList, occ_go x c _ _ _ _ (by omega) (by simp) (Nat.le_refl _), List.drop_zero, Array.size_empty, Nat.zero_add]
/-- the ones of a number's binary digits -/
def pop (n : Nat) : Nat := if h : n = 0 then 0 else n % 2 + pop (n / 2)
termination_by n
decreasing_by omega
theorem pop_zero : pop 0 = 0 := by rw [pop]; rfl
theorem pop_eq (n : Nat) : pop n = n % 2 + pop (n / 2) := by
  by_cases h : n = 0
  · subst h; simp [pop_zero]
  · rw [pop, dif_neg h]
theorem binS_ones : ∀ n : Nat, (binS n).cps.toList.count 49 = pop n := by
  intro n
  have dig : ∀ k, k < 2 → ([(Nat.digitChar k)].map Char.toNat).count 49 = k := by decide
  induction n using Nat.strongRecOn with
  | _ n ih =>
    by_cases h : n < 2
    · unfold binS
      rw [Nat.toDigits_of_lt_base h]
      have e := dig n h
      rw [pop_eq, show n / 2 = 0 by omega, pop_zero, show n % 2 = n by omega]
      simpa using e
    · have hh := ih (n / 2) (by omega)
      unfold binS at hh ⊢
      rw [Nat.toDigits_of_base_le (by decide) (by omega), pop_eq]
      have e := dig (n % 2) (by omega)
      simp only [List.map_append, List.count_append] at hh ⊢
      rw [hh, e]
      omega
theorem binS_len {n k : Nat} (h : n < 2 ^ k) (hk : 0 < k) : (binS n).length ≤ k := by
  have e : (binS n).length = (Nat.toDigits 2 n).length := by simp [binS, Str.length]
  rw [e]
  exact (Nat.length_toDigits_le_iff (by decide) hk).mpr h
theorem count_bin (n : Nat) : Txt.count (binS n) (Str.ofString "1") = (pop n : Nat) := by
  rw [show (Str.ofString "1") = (⟨#[49]⟩ : Str) by decide +kernel, count_one, binS_ones]
/-- {e:b} -/
theorem pe_fmtB {X : Cx} {e spec : Expr} {te : TE} {pos : Pos} (he : PE X e te) (hs : PE X spec (tC (.str (Str.ofString "b")))) : PE X (.FormattedValue e (-1) (some spec) pos) (fun σ H Q => te σ H fun x H1 => ∃ n : Nat, x = .int n ∧ (binS n).length ≤ sizeLine ∧ Q (.str (binS n)) H1) := by
  refine ⟨fun pins s σ H Q I h => ?_⟩
  refine wpAny_FormattedValue_spec (thn (he.run pins s σ H _ I h) fun v s1 ⟨x, H1, I1, r1, n, e1, hz, q⟩ => ?_)
  subst e1
  obtain ⟨t, rfl⟩ := r1
  refine thn (hs.run pins s1 σ H1 (fun v' H' => v' = .str (Str.ofString "b") ∧ H' = H1) I1 ⟨rfl, rfl⟩) fun r s2 ⟨v', H2, I2, r2, e2, e3⟩ => ?_
  subst e2; subst e3
  obtain ⟨t2, rfl⟩ := r2
  exact ⟨_, t2, rfl, formatField_bin hz fun t' k => ⟨.str (binS n), _, I2.tok _, ⟨_, rfl⟩, q⟩⟩
/-- f'{e:b}'.count('1') -/
theorem we_ones {X : Cx} {c : Ct} {A : AS} {e : Expr} {k1 k2} {p1 p2 p3 p4 p5 apos cpos : Pos} {Q : PyData → Prop} (h : WE X c e A fun d => ∃ n : Nat, d = .int n ∧ n < 2 ^ 100000 ∧ Q (.int (pop n : Nat)))
    (hbase : attributeBase (.JoinedStr [.FormattedValue e (-1) (some (.JoinedStr [.Constant (.str (Str.ofString "b")) k1 p1] p2)) p3] p4) "count" X.env (eval (.JoinedStr [.FormattedValue e (-1) (some (.JoinedStr [.Constant (.str (Str.ofString "b")) k1 p1] p2)) p3] p4) X.env) = eval (.JoinedStr [.FormattedValue e (-1) (some (.JoinedStr [.Constant (.str (Str.ofString "b")) k1 p1] p2)) p3] p4) X.env := by rfl)
    (hfew : ((backTo cpos (starEach [.Constant (.str (Str.ofString "1")) k2 p5] X.env)).all (fun x => !x.1) && (backToKw cpos (keywordEach [] X.env)).all (fun x => x.1.isSome) && decide ([Expr.Constant (.str (Str.ofString "1")) k2 p5].length + ([] : List Keyword).length + (if ([] : List Keyword).isEmpty then 0 else 1) < 30)) = true := by rfl)
    (hline : (apos.endLine == cpos.line) = true := by rfl) (hs : starEach [.Constant (.str (Str.ofString "1")) k2 p5] X.env = (false, eval (.Constant (.str (Str.ofString "1")) k2 p5) X.env) :: starEach [] X.env := by rfl) (hplain : (backTo cpos (starEach [] X.env)).any (·.1) = false := by rfl) :
    WE X c (.Call (.Attribute (.JoinedStr [.FormattedValue e (-1) (some (.JoinedStr [.Constant (.str (Str.ofString "b")) k1 p1] p2)) p3] p4) "count" apos) [.Constant (.str (Str.ofString "1")) k2 p5] [] cpos) A Q := fun G ps σ H S => by
  refine wE_of (pe_bm PySem.F.plainAttrs_str PySem.F.slot_str_count PySem.F.type_str_count mt_count (pe_joined1 (pe_fmtB pe_w (pe_joined1 pe_str))) (pa_cons pe_str pa_nil hs) hbase hfew hline hs hplain) (wE_mono (h G ps σ H S) fun v H1 ⟨G1, d, s1, r1, n, e1, hn, q⟩ => ?_)
  subst e1
  refine ⟨n, dp_int r1, Nat.le_trans (binS_len hn (by decide)) (Evl.sz_of (Nat.le_refl _)), rfl, binS n, _, rfl, rfl, ?_⟩
  rw [count_bin]
  exact ⟨G1, _, s1, .int _, q⟩
end Eng

set_option Elab.async false
set_option linter.all false
set_option maxRecDepth 100000
namespace Eng
open PySem PySem.Spec PyProof.Rows L2
/-- the members of a mask, ascending -/
def bits (n : Nat) : List Nat := if h : n = 0 then [] else (if n % 2 = 1 then [0] else []) ++ (bits (n / 2)).map (· + 1)
termination_by n
decreasing_by omega
theorem bits_zero : bits 0 = [] := by rw [bits]; rfl
theorem bits_eq (n : Nat) : bits n = (if n % 2 = 1 then [0] else []) ++ (bits (n / 2)).map (· + 1) := by
  by_cases h : n = 0
  · subst h; simp [bits_zero]
  · rw [bits, dif_neg h]
theorem bits_len (n : Nat) : (bits n).length = pop n := by
  induction n using Nat.strongRecOn with
  | _ n ih =>
    by_cases h : n = 0
    · subst h; rw [bits_zero, pop_zero]; rfl
    · rw [bits_eq, pop_eq, List.length_append, List.length_map, ih (n / 2) (by omega)]
      by_cases hm : n % 2 = 1
      · rw [if_pos hm, hm]; rfl
      · rw [if_neg hm, show n % 2 = 0 by omega]; rfl
theorem bits_filter : ∀ (L n : Nat), n < 2 ^ L → bits n = (List.range L).filter fun k => n.testBit k
  | 0, n, h => by
    have : n = 0 := by simpa using h
    subst this
    rw [bits_zero]; rfl
  | L + 1, n, h => by
    have ih := bits_filter L (n / 2) (by rw [Nat.pow_succ] at h; omega)
    rw [bits_eq, ih, List.range_succ_eq_map, List.filter_cons, List.filter_map]
    have e : ((fun k => n.testBit k) ∘ Nat.succ) = fun k => (n / 2).testBit k := by
      funext k
      show n.testBit (k + 1) = _
      rw [Nat.testBit_succ]
    rw [e]
    by_cases hm : n % 2 = 1
    · rw [if_pos hm, if_pos (by rw [Nat.testBit_zero]; simp [hm])]; rfl
    · rw [if_neg hm, if_neg (by rw [Nat.testBit_zero]; simp [hm])]; rfl
theorem nat_ext2 {a b : Nat} (h1 : a / 2 = b / 2) (h2 : a % 2 = b % 2) : a = b := by omega
theorem and_mod (a b : Nat) : (a &&& b) % 2 = (a % 2) * (b % 2) := by
  have h := Nat.testBit_and a b 0
  simp only [Nat.testBit_zero] at h
  rcases Nat.mod_two_eq_zero_or_one a with ha | ha <;> rcases Nat.mod_two_eq_zero_or_one b with hb | hb <;> rcases Nat.mod_two_eq_zero_or_one (a &&& b) with hc | hc <;> simp_all
theorem xor_mod (a b : Nat) : (a ^^^ b) % 2 = (a + b) % 2 := by
  have h := Nat.testBit_xor a b 0
  simp only [Nat.testBit_zero] at h
  rcases Nat.mod_two_eq_zero_or_one a with ha | ha <;> rcases Nat.mod_two_eq_zero_or_one b with hb | hb <;> rcases Nat.mod_two_eq_zero_or_one (a ^^^ b) with hc | hc <;> rw [ha, hb, hc] at h <;> first | omega | exact absurd h (by decide)
theorem low_bit (n : Nat) (h : 0 < n) : ∃ t, (n &&& (n - 1)) + 2 ^ t = n ∧ bits n = t :: bits (n &&& (n - 1)) ∧ n ^^^ 2 ^ t = n &&& (n - 1) := by
  induction n using Nat.strongRecOn with
  | _ n ih =>
    rcases Nat.mod_two_eq_zero_or_one n with hm | hm
    · obtain ⟨t, h1, h2, h3⟩ := ih (n / 2) (by omega) (by omega)
      have e : n &&& (n - 1) = 2 * (n / 2 &&& (n / 2 - 1)) := by
        apply nat_ext2
        · rw [Nat.and_div_two, show (n - 1) / 2 = n / 2 - 1 by omega]; omega
        · rw [and_mod, hm]; omega
      refine ⟨t + 1, ?_, ?_, ?_⟩
      · rw [e, Nat.pow_succ]; omega
      · rw [e, bits_eq n, h2, bits_eq (2 * _), if_neg (by omega), if_neg (by omega), show 2 * (n / 2 &&& (n / 2 - 1)) / 2 = (n / 2 &&& (n / 2 - 1)) by omega]
        rfl
      · rw [e, ← h3]
        apply nat_ext2
        · rw [Nat.xor_div_two, show 2 ^ (t + 1) / 2 = 2 ^ t by rw [Nat.pow_succ]; omega]; omega
        · rw [xor_mod, Nat.pow_succ]; omega
    · have e : n &&& (n - 1) = n - 1 := by
        apply nat_ext2
        · rw [Nat.and_div_two, show (n - 1) / 2 = n / 2 by omega, Nat.and_self]
        · rw [and_mod, hm]; omega
      refine ⟨0, ?_, ?_, ?_⟩
      · rw [e]; omega
      · rw [e, bits_eq n, if_pos hm, bits_eq (n - 1), if_neg (by omega), show (n - 1) / 2 = n / 2 by omega]; rfl
      · rw [e]
        apply nat_ext2
        · rw [Nat.xor_div_two, show 2 ^ 0 / 2 = 0 by decide, Nat.xor_zero]; omega
        · rw [xor_mod]; omega
theorem bitAnd_low {n : Nat} (h : 0 < n) : Builtin.bitAnd (n : Int) (-(n : Int)) = ((n - (n &&& (n - 1)) : Nat) : Int) := by
  rw [bitAnd_pn (by omega) (by omega)]
  have e : (Builtin.bitNot (-(n : Int))).toNat = n - 1 := by
    show (-(-(n : Int)) - 1).toNat = n - 1
    omega
  rw [e, Int.toNat_natCast]
  have : n &&& (n - 1) ≤ n := Nat.and_le_left
  omega
theorem bitXor_cast (a b : Nat) : Builtin.bitXor (a : Int) (b : Int) = ((a ^^^ b : Nat) : Int) := by
  rw [Bits.bitXor_pp (by omega) (by omega), Int.toNat_natCast, Int.toNat_natCast]
theorem bitOr_cast (a b : Nat) : Builtin.bitOr (a : Int) (b : Int) = ((a ||| b : Nat) : Int) := by
  rw [Bits.bitOr_pp (by omega) (by omega), Int.toNat_natCast, Int.toNat_natCast]
theorem bitAnd_cast (a b : Nat) : Builtin.bitAnd (a : Int) (b : Int) = ((a &&& b : Nat) : Int) := by
  rw [bitAnd_pp (by omega) (by omega), Int.toNat_natCast, Int.toNat_natCast]
theorem intBits_pow (t : Nat) : Builtin.Int.intBits ((2 ^ t : Nat) : Int) = t + 1 := by
  unfold Builtin.Int.intBits
  have hp : 0 < 2 ^ t := Nat.pow_pos (by decide)
  rw [if_neg (by simp only [beq_iff_eq]; omega), Int.natAbs_natCast, Nat.log2_two_pow]
theorem lt_intBits (n : Nat) : n < 2 ^ Builtin.Int.intBits (n : Int) := by
  unfold Builtin.Int.intBits
  by_cases h : n = 0
  · subst h; decide
  · rw [if_neg (by simp; omega), Int.natAbs_natCast]
    exact Nat.lt_log2_self
theorem intBits_lt {n k : Nat} (h : n < 2 ^ k) : Builtin.Int.intBits (n : Int) ≤ k := by
  unfold Builtin.Int.intBits
  by_cases h0 : n = 0
  · subst h0; simp
  · rw [if_neg (by simp; omega), Int.natAbs_natCast]
    exact (Nat.log2_lt h0).mpr h
/-- the mask of numbers, each as often as it stands -/
def maskOf (ks : List Nat) : Nat := ks.foldl (fun m k => m ^^^ 2 ^ k) 0
theorem fold_xor (ks : List Nat) : ∀ m, ks.foldl (fun m k => m ^^^ 2 ^ k) m = m ^^^ maskOf ks := by
  induction ks with
  | nil => intro m; show m = m ^^^ 0; rw [Nat.xor_zero]
  | cons k ks ih =>
    intro m
    unfold maskOf
    rw [List.foldl_cons, List.foldl_cons, ih, ih (0 ^^^ 2 ^ k), Nat.zero_xor, Nat.xor_assoc]
theorem maskOf_cons (k : Nat) (ks : List Nat) : maskOf (k :: ks) = 2 ^ k ^^^ maskOf ks := by
  show ks.foldl _ (0 ^^^ 2 ^ k) = _
  rw [fold_xor, Nat.zero_xor]
theorem mask_bits (n : Nat) : maskOf (bits n) = n := by
  induction n using Nat.strongRecOn with
  | _ n ih =>
    by_cases h : n = 0
    · subst h; rw [bits_zero]; rfl
    · obtain ⟨t, h1, h2, h3⟩ := low_bit n (by omega)
      have hp : 0 < 2 ^ t := Nat.pow_pos (by decide)
      rw [h2, maskOf_cons, ih (n &&& (n - 1)) (by omega), ← h3, Nat.xor_comm, Nat.xor_assoc, Nat.xor_self, Nat.xor_zero]
theorem filt_yes {α : Type} {f : Nat → Bool} {v : Nat → α} {i : Nat} (h : f i = true) : ((List.range (i + 1)).filter f).map v = ((List.range i).filter f).map v ++ [v i] := by
  rw [List.range_succ, List.filter_append, List.map_append, List.filter_cons, if_pos h]
  rfl
theorem filt_no {α : Type} {f : Nat → Bool} {v : Nat → α} {i : Nat} (h : f i = false) : ((List.range (i + 1)).filter f).map v = ((List.range i).filter f).map v := by
  rw [List.range_succ, List.filter_append, List.filter_cons, if_neg (by rw [h]; decide)]
  show List.map v (_ ++ []) = _
  rw [List.append_nil]
theorem maskOf_snoc (ks : List Nat) (k : Nat) : maskOf (ks ++ [k]) = maskOf ks ^^^ 2 ^ k := by
  unfold maskOf
  rw [List.foldl_append]
  rfl
/-! ### rules over numbers that are not negative -/
section
variable {X : Cx} {c : Ct} {A : AS} {e a b : Expr} {es : List Expr} {pos p : Pos} {Q : PyData → Prop} {st : Stmt} {sts rest : List Stmt} {D : ADs} {N : List Str} {n m : Nat} {i j : Int}
theorem od_andN (q : Q (.int ((n &&& m : Nat) : Int))) : OpD X c (binaryOp .BitAnd) (.int n) (.int m) Q := od_and (by rw [bitAnd_cast]; exact q)
theorem od_orN (q : Q (.int ((n ||| m : Nat) : Int))) : OpD X c (binaryOp .BitOr) (.int n) (.int m) Q := od_or (by rw [bitOr_cast]; exact q)
theorem od_xorN (q : Q (.int ((n ^^^ m : Nat) : Int))) : OpD X c (binaryOp .BitXor) (.int n) (.int m) Q := od_xor (by rw [bitXor_cast]; exact q)
theorem od_and1 (q : Q (.int ((n % 2 : Nat) : Int))) : OpD X c (binaryOp .BitAnd) (.int n) (.int 1) Q := od_and (by
  have e : Builtin.bitAnd (n : Int) 1 = ((n % 2 : Nat) : Int) := by
    have := bitAnd_cast n 1
    rw [Nat.and_one_is_mod] at this
    exact this
  rw [e]; exact q)
theorem od_shrN (q : Q (.int ((n / 2 ^ m : Nat) : Int))) : OpD X c (binaryOp .RShift) (.int n) (.int m) Q := od_shr (by omega) (by
  have e : (n : Int) / 2 ^ (m : Int).toNat = ((n / 2 ^ m : Nat) : Int) := by
    rw [Int.toNat_natCast]; norm_cast
  rw [e]; exact q)
theorem od_shl1 (hm : m ≤ 100000) (q : Q (.int ((2 ^ m : Nat) : Int))) : OpD X c (binaryOp .LShift) (.int 1) (.int m) Q := od_shl (shl_ok (n := 1) (by decide) (by omega)) (by
  have e : (1 : Int) * 2 ^ (m : Int).toNat = ((2 ^ m : Nat) : Int) := by
    rw [Int.toNat_natCast, Int.one_mul]; norm_cast
  rw [e]; exact q)
theorem od_ixorN (q : Q (.int ((n ^^^ m : Nat) : Int))) : OpD X c (inplaceOp .BitXor) (.int n) (.int m) Q := od_I0 iop_xor (by rw [bitXor_cast]; exact q)
theorem od_iadd (q : Q (.int (i + j))) : OpD X c (inplaceOp .Add) (.int i) (.int j) Q := od_I0 iop_add q
/-- x.bit_length() -/
theorem we_bl {apos cpos : Pos} (h : WE X c e A fun d => ∃ i, d = .int i ∧ Q (.int (Builtin.Int.intBits i : Nat))) (hbase : attributeBase e "bit_length" X.env (eval e X.env) = eval e X.env) (hline : (apos.endLine == cpos.line) = true) : WE X c (.Call (.Attribute e "bit_length" apos) [] [] cpos) A Q := fun G ps σ H S =>
  wE_of (pe_bits pe_w hbase hline) (wE_mono (h G ps σ H S) fun v H1 ⟨G1, d, s1, r1, i, e1, q⟩ => by subst e1; exact ⟨i, dp_int r1, G1, _, s1, .int _, q⟩)
end
end Eng

set_option Elab.async false
set_option linter.all false
set_option maxRecDepth 100000
set_option maxHeartbeats 2000000
/-! PyB: terms, and what they come to: an interpreter over data and nodes. -/
namespace Py
open PySem PySem.Spec PyProof.Rows L2

inductive Bf where
  | len | abs | int | min | max | sum | any | all | list | sorted | tuple
  deriving DecidableEq
mutual
inductive Tm where
  | dat (d : PyData)
  | var (i : Nat)
  | bin (op : Operator) (a b : Tm)
  | un (op : UnaryOp) (a : Tm)
  | cmp (op : CmpOp) (a b : Tm)
  | chn (o o' : CmpOp) (a b e : Tm)
  | and (a b : Tm) | or (a b : Tm) | not (a : Tm)
  | ite (t a b : Tm)
  | tup (es : Tms)
  | lst (fr : Bool) (es : Tms)
  | idx (a b : Tm)
  | cat (fr : Bool) (a b : Tm)
  | rep (fr : Bool) (a b : Tm)
  | slc (a : Tm) (lo hi : Tms)
  | isi (a : Tm) (T : String)
  | isx (i : Nat) (C : Str)
  | bits (a : Tm)
  | blen (a : Tm)
  | sortr (fr : Bool) (a : Tm)
  | call (f : Str) (m : Nat) (fr : Bool) (es : Tms)
  | bi (f : Bf) (fr : Bool) (es : Tms)
  | com (fr : Bool) (elt : Tm) (tg : Tg) (it : Itr) (ifs : Tms) (vs : List Nat)
inductive Tms where
  | nil | cons (e : Tm) (es : Tms)
inductive Itr where
  | seq (e : Tm) | rng (a : Tm) | rng2 (a b : Tm) | enu (a : Tm) | zip (a b : Tm)
inductive Tg where
  | nm (i : Nat) | tup (is : List Nat)
end
inductive Sm where
  | asg (i : Nat) (e : Tm)
  | asgT (is : List Nat) (e : Tm)
  | asgI (a b e : Tm)
  | aug (i : Nat) (op : Operator) (e : Tm)
  | app (a e : Tm)
  | drop (e : Tm)
  | ret (e : Tm)
  | ite (t : Tm) (a b : List Sm)
  | for_ (tg : Tg) (it : Itr) (body : List Sm) (ws : List Nat)
  | while_ (t : Tm) (body : List Sm) (ws : List Nat)
  | raise (C : Str)
  | try_ (body : List Sm) (C : Str) (i : Option Nat) (suite : List Sm)
  | pass | brk | cnt
  | ext (a e : Tm)
  | asg2 (i j : Nat) (e : Tm)
  | gc

/-! ### the monad -/
inductive Out (α : Type) where
  | ok (a : α) (A : AS) | ex (C : Str) (A : AS)
abbrev M (α : Type) := AS → Option (Out α)
def M.bind {α β : Type} (m : M α) (f : α → M β) : M β := fun A => match m A with
  | none => none
  | some (.ex c A1) => some (.ex c A1)
  | some (.ok a A1) => f a A1
/-- where an exception is not awaited -/
def M.nox {α : Type} (m : M α) : M α := fun A => match m A with
  | some (.ok a A1) => some (.ok a A1)
  | _ => none
def M.ret {α : Type} (a : α) : M α := fun A => some (.ok a A)
def M.of {α : Type} (o : Option α) : M α := fun A => match o with
  | some a => some (.ok a A)
  | none => none

/-! ### data -/
def binD (op : Operator) : PyData → PyData → Option PyData
  | .int i, .int j => match op with
    | .Add => some (.int (i + j))
    | .Sub => some (.int (i - j))
    | .Mult => if i.natAbs.log2 < 64 ∨ j.natAbs.log2 < 64 then some (.int (i * j)) else none
    | .FloorDiv => if 0 < j ∧ j.natAbs.log2 < 9000 then some (.int (i / j)) else none
    | .Mod => if 0 < j then some (.int (i % j)) else none
    | .BitAnd => some (.int (Builtin.bitAnd i j))
    | .BitOr => some (.int (Builtin.bitOr i j))
    | .BitXor => some (.int (Builtin.bitXor i j))
    | .LShift => if 0 ≤ j ∧ (Builtin.Int.intBits i : Int) + j ≤ 2 ^ 27 then some (.int (i * 2 ^ j.toNat)) else none
    | .RShift => if 0 ≤ j then some (.int (i / 2 ^ j.toNat)) else none
    | _ => none
  | .str a, .str b => match op with
    | .Add => if a.length + b.length ≤ 100000 then some (.str (a ++ b)) else none
    | _ => none
  | _, _ => none
def unD (op : UnaryOp) : PyData → Option PyData
  | .int i => match op with
    | .USub => some (.int (-i))
    | .Invert => some (.int (Builtin.bitNot i))
    | _ => none
  | _ => none
def eqD : PyData → PyData → Option Bool
  | .int i, .int j => some (decide (i = j))
  | .bool i, .bool j => some (decide (i = j))
  | .str i, .str j => some (decide (i = j))
  | a, b => if SeqAt.shaped a = true ∧ SeqAt.shaped b = true then some (PyData.eqv a b) else none
def inD (a : PyData) : PyData → Option Bool
  | .list ds => if SeqAt.shaped a = true ∧ SeqAt.shaped (.list ds) = true then some (ds.any fun z => PyData.eqv z a) else none
  | .tuple ds => if SeqAt.shaped a = true ∧ SeqAt.shaped (.tuple ds) = true then some (ds.any fun z => PyData.eqv z a) else none
  | _ => none
def isNon : PyData → Bool
  | .none => true
  | _ => false
def cmpD (op : CmpOp) (a b : PyData) : Option Bool := match op with
  | .Eq => eqD a b
  | .NotEq => (eqD a b).map (! ·)
  | .In => inD a b
  | .NotIn => (inD a b).map (! ·)
  | .Is => match b with
    | .none => some (isNon a)
    | _ => none
  | .IsNot => match b with
    | .none => some (!isNon a)
    | _ => none
  | op => match a, b with
    | .int i, .int j => match op with
      | .Lt => some (decide (i < j))
      | .LtE => some (decide (i ≤ j))
      | .Gt => some (decide (j < i))
      | .GtE => some (decide (j ≤ i))
      | _ => none
    | _, _ => none
def truD : PyData → Option Bool
  | .none => some false
  | .bool b => some b
  | .int i => some (i != 0)
  | .list ds => some (!ds.isEmpty)
  | .tuple ds => some (!ds.isEmpty)
  | _ => none
def ixD (a b : PyData) : Option PyData := match b with
  | .int i => match a with
    | .list ds => atI ds i
    | .tuple ds => atI ds i
    | .str z => if z.length ≤ 100000 then (atI z.cps.toList i).map fun k => .str ⟨#[k]⟩ else none
    | _ => none
  | _ => none
def cutD (ds : List PyData) (lo hi : Option Int) : List PyData := (ds.drop (HT.sIx ds.length 0 lo)).take (HT.sIx ds.length ds.length hi - HT.sIx ds.length 0 lo)
def slD (a : PyData) (lo hi : Option Int) : Option PyData := match a with
  | .list ds => some (.list (cutD ds lo hi))
  | _ => none
def tyD : PyData → Option String
  | .none => some "NoneType" | .bool _ => some "bool" | .int _ => some "int" | .str _ => some "str" | .list _ => some "list" | .tuple _ => some "tuple" | .dict _ => none
def intsD : List PyData → Option (List Int)
  | [] => some []
  | .int i :: ds => (intsD ds).map (i :: ·)
  | _ => none
def boolsD : List PyData → Option (List Bool)
  | [] => some []
  | .bool i :: ds => (boolsD ds).map (i :: ·)
  | _ => none
def insI (i : Int) : List Int → List Int
  | [] => [i]
  | j :: l => if i ≤ j then i :: j :: l else j :: insI i l
def sortI : List Int → List Int
  | [] => []
  | i :: l => insI i (sortI l)
def minL : List Int → Int
  | [] => 0
  | [i] => i
  | i :: l => min i (minL l)
def maxL : List Int → Int
  | [] => 0
  | [i] => i
  | i :: l => max i (maxL l)
/-- built-ins whose answer is flat -/
def biF (f : Bf) (ds : List PyData) : Option PyData := match f with
  | .len => match ds with
    | [.list l] => some (.int l.length)
    | [.tuple l] => some (.int l.length)
    | [.str z] => if z.length ≤ 100000 then some (.int z.length) else none
    | _ => none
  | .abs => match ds with
    | [.int i] => some (.int (if i < 0 then -i else i))
    | _ => none
  | .int => match ds with
    | [.int i] => some (.int i)
    | [.bool b] => some (.int (if b then 1 else 0))
    | _ => none
  | .min => match ds with
    | [.int i, .int j] => some (.int (if j < i then j else i))
    | [.list l] => match intsD l with
      | some (i :: is) => some (.int (minL (i :: is)))
      | _ => none
    | _ => none
  | .max => match ds with
    | [.int i, .int j] => some (.int (if j > i then j else i))
    | [.list l] => match intsD l with
      | some (i :: is) => some (.int (maxL (i :: is)))
      | _ => none
    | _ => none
  | .sum => match ds with
    | [.list l] => (intsD l).map fun is => .int is.sum
    | _ => none
  | .any => match ds with
    | [.list l] => (boolsD l).map fun bs => .bool (bs.any id)
    | _ => none
  | .all => match ds with
    | [.list l] => (boolsD l).map fun bs => .bool (bs.all id)
    | _ => none
  | _ => none
/-- built-ins whose answer is a new list -/
def biL (f : Bf) (ds : List PyData) : Option (List PyData) := match f with
  | .list => match ds with
    | [.list l] => some l
    | [.tuple l] => some l
    | _ => none
  | .sorted => match ds with
    | [.list l] => (intsD l).map fun is => (sortI is).map .int
    | _ => none
  | _ => none
/-- .. a new tuple -/
def biT (f : Bf) (ds : List PyData) : Option (List PyData) := match f with
  | .tuple => match ds with
    | [.list l] => some l
    | _ => none
  | _ => none

/-! ### the interpreter -/
inductive RO where
  | ret (v : SV) (μ : List ON) | ex (C : Str) (μ : List ON)
/-- what is called, by name; the number of the entry's nodes -/
structure Gm where
  fn : Str → List SV → List ON → Option RO
  sub : Str → Str → Option Bool
  r : Nat
def view (s : SV) : M PyData := fun A => match viewOf A.μ s with
  | some d => some (.ok d A)
  | none => none
/-- as data: a list of one's own stands still from now on -/
def toD (r : Nat) (s : SV) : M PyData := fun A => match s with
  | .dat d => some (.ok d A)
  | .own k => match A.μ[k]? with
    | some (.lst ds) => if r ≤ k then some (.ok (.list ds) (frzA k (.list ds) A)) else none
    | _ => none
  | .any => none
  | .exc _ => none
def toDs (r : Nat) : List SV → M (List PyData)
  | [] => M.ret []
  | s :: ss => (toD r s).bind fun d => (toDs r ss).bind fun ds => M.ret (d :: ds)
def views : List SV → M (List PyData)
  | [] => M.ret []
  | s :: ss => (view s).bind fun d => (views ss).bind fun ds => M.ret (d :: ds)
def alloc (fr : Bool) (ds : List PyData) : M SV := fun A => if ds.length ≤ 1000000 then (if fr = true then some (.ok (.own A.μ.length) ⟨A.ρ, A.μ ++ [.lst ds]⟩) else some (.ok (.dat (.list ds)) A)) else none
def noRef : PyData → Bool
  | .none => true | .bool _ => true | .int _ => true | .str _ => true | .tuple ds => noRefs ds | _ => false
where noRefs : List PyData → Bool
  | [] => true
  | d :: ds => noRef d && noRefs ds
/-- places in a list of addresses -/
def posOf (ks : List Nat) (k : Nat) : Nat := ks.idxOf k
def renV (f : Nat → Nat) : SV → SV
  | .own k => .own (f k)
  | s => s
def renN (f : Nat → Nat) : ON → ON
  | .obs vs => .obs (vs.map (renV f))
  | .dct ks => .dct (ks.map fun p => (p.1, renV f p.2))
  | .dctT ks => .dctT (ks.map fun p => (p.1, renV f p.2))
  | .ins C fs => .ins C (fs.map fun p => (p.1, renV f p.2))
  | n => n
def ownsOf : List SV → List Nat
  | [] => []
  | .own k :: ss => let r := ownsOf ss; if k ∈ r then r else k :: r
  | _ :: ss => ownsOf ss
def flatN : ON → Bool
  | .lst _ => true
  | _ => false
/-- the outcomes of a plain call; of one to which views are lent; of one whose first argument is the node k -/
def plainO (fr : Bool) (A : AS) : Option RO → Option (Out SV)
  | some (.ret (.dat d) []) => if fr = true then none else some (.ok (.dat d) A)
  | some (.ret (.own 0) [.lst es]) => if fr = true then some (.ok (.own A.μ.length) ⟨A.ρ, A.μ ++ [.lst es]⟩) else some (.ok (.dat (.list es)) A)
  | some (.ex C []) => some (.ex C A)
  | _ => none
def lentO (fr : Bool) (A : AS) : Option RO → Option (Out SV)
  | some (.ret (.dat d) []) => if fr = true then none else if noRef d = true then some (.ok (.dat d) A) else none
  | some (.ret (.own 0) [.lst es]) => if es.all noRef = true then (if fr = true then some (.ok (.own A.μ.length) ⟨A.ρ, A.μ ++ [.lst es]⟩) else some (.ok (.dat (.list es)) A)) else none
  | some (.ex C []) => some (.ex C A)
  | _ => none
def refO (k : Nat) (fr : Bool) (A : AS) : Option RO → Option (Out SV)
  | some (.ret (.dat d) [.lst qs]) => if fr = true then none else some (.ok (.dat d) ⟨A.ρ, A.μ.set k (.lst qs)⟩)
  | some (.ret (.own 1) [.lst qs, .lst es]) => if fr = true then some (.ok (.own A.μ.length) ⟨A.ρ, A.μ.set k (.lst qs) ++ [.lst es]⟩) else some (.ok (.dat (.list es)) ⟨A.ρ, A.μ.set k (.lst qs)⟩)
  | _ => none
def callF (Γ : Gm) (f : Str) (m : Nat) (fr : Bool) (ss : List SV) : M SV := match m with
  | 0 => (toDs Γ.r ss).bind fun ds => fun A => plainO fr A (Γ.fn f (ds.map .dat) [])
  | 1 => (views ss).bind fun ds => fun A => lentO fr A (Γ.fn f (ds.map .dat) [])
  | 2 => match ss with
    | .own k :: rest => (toDs Γ.r rest).bind fun ds => fun A => match A.μ[k]? with
      | some (.lst ps) => refO k fr A (Γ.fn f (.own 0 :: ds.map .dat) [.lst ps])
      | _ => none
    | _ => fun _ => none
  | _ => fun _ => none
def setNs : List Nat → List PyData → List SV → Option (List SV)
  | [], [], ρ => some ρ
  | i :: is, d :: ds, ρ => setNs is ds (ρ.set i (.dat d))
  | _, _, _ => none
def tgSet (tg : Tg) (d : PyData) (ρ : List SV) : Option (List SV) := match tg with
  | .nm i => some (ρ.set i (.dat d))
  | .tup is => match d with
    | .tuple ds => setNs is ds ρ
    | _ => none
def wipeV (ρ : List SV) : List Nat → List SV
  | [] => ρ
  | j :: vs => (wipeV ρ vs).set j .any
def enumD (ds : List PyData) : List PyData := ds.mapIdx fun (i : Nat) d => PyData.tuple [.int (i : Int), d]
def zipD : List PyData → List PyData → List PyData
  | a :: as, b :: bs => .tuple [a, b] :: zipD as bs
  | _, _ => []
def rngD (lo : Int) (n : Nat) : List PyData := (List.range n).map fun (k : Nat) => PyData.int (lo + (k : Int))
def seqD : PyData → Option (List PyData)
  | .list ds => some ds
  | .tuple ds => some ds
  | _ => none
/-- a comprehension's turns: the block's slots go at each turn -/
def comGo (tg : Tg) (vs : List Nat) (tests : M Bool) (elt : M SV) (r : Nat) : List PyData → List PyData → M (List PyData)
  | [], acc => M.ret acc
  | d :: ds, acc => fun A => match tgSet tg d A.ρ with
    | none => none
    | some ρ1 => match tests ⟨ρ1, A.μ⟩ with
      | some (.ok true A1) => match (elt.bind (toD r)) A1 with
        | some (.ok x A2) => comGo tg vs tests elt r ds (acc ++ [x]) ⟨wipeV A2.ρ vs, A2.μ⟩
        | _ => none
      | some (.ok false A1) => comGo tg vs tests elt r ds acc ⟨wipeV A1.ρ vs, A1.μ⟩
      | _ => none
/-- list + list, list * number: of lists of one's own -/
def catF (fr : Bool) (x y : SV) : M SV := fun A => match x, y with
  | .own k, .own j => match A.μ[k]?, A.μ[j]? with
    | some (.lst ds), some (.lst es) => alloc fr (ds ++ es) A
    | _, _ => none
  | _, _ => none
def repF (fr : Bool) (x : SV) (d : PyData) : M SV := fun A => match x, d with
  | .own k, .int n => match A.μ[k]? with
    | some (.lst ds) => if -1000000 ≤ n ∧ n ≤ 1000000 then alloc fr (List.replicate n.toNat ds).flatten A else none
    | _ => none
  | _, _ => none
/-! ### what nobody names goes -/
def gcKs (r : Nat) : List Nat → List SV → List Nat
  | acc, [] => acc
  | acc, .own k :: ρ => if k < r ∨ k ∈ acc then gcKs r acc ρ else gcKs r (acc ++ [k]) ρ
  | acc, _ :: ρ => gcKs r acc ρ
def flatO : Option ON → Bool
  | some .gone => true
  | some (.lst _) => true
  | _ => false
def gcV (r : Nat) (ks : List Nat) : SV → SV
  | .own k => .own (if k < r then k else r + ks.idxOf k)
  | s => s
def pickN (μ : List ON) (k : Nat) : ON := match μ[k]? with
  | some n => n
  | none => .gone
def gcA (r : Nat) (A : AS) : AS := if (List.range r ++ gcKs r [] A.ρ).all (fun k => flatO A.μ[k]?) = true then ⟨A.ρ.map (gcV r (gcKs r [] A.ρ)), (List.range r ++ gcKs r [] A.ρ).map (pickN A.μ)⟩ else A
/-- behind a suite that had caught an exception -/
def noX : List SV → List SV
  | [] => []
  | .exc _ :: ρ => .any :: noX ρ
  | s :: ρ => s :: noX ρ
def endX (j : Nat) (A : AS) : AS := ⟨(noX A.ρ).set j .any, A.μ⟩
/-- a list of one's own -/
def lstAt (o : SV) : M Nat := fun A => match o with
  | .own k => match A.μ[k]? with
    | some (.lst _) => some (.ok k A)
    | _ => none
  | _ => none
def truM (x : SV) : M Bool := (view x).bind fun d => M.of (truD d)
mutual
def ev (Γ : Gm) : Tm → M SV
  | .dat d => M.ret (.dat d)
  | .var i => fun A => match A.ρ[i]? with
    | some (.dat d) => some (.ok (.dat d) A)
    | some (.own k) => some (.ok (.own k) A)
    | _ => none
  | .bin op a b => (ev Γ a).bind fun x => (ev Γ b).bind fun y => (view x).bind fun d => (view y).bind fun e => (M.of (binD op d e)).bind fun r => M.ret (.dat r)
  | .un op a => (ev Γ a).bind fun x => (view x).bind fun d => (M.of (unD op d)).bind fun r => M.ret (.dat r)
  | .cmp op a b => (ev Γ a).bind fun x => (ev Γ b).bind fun y => (view x).bind fun d => (view y).bind fun e => (M.of (cmpD op d e)).bind fun r => M.ret (.dat (.bool r))
  | .chn o o' a b e => (ev Γ a).nox.bind fun x => (ev Γ b).nox.bind fun y => (view x).bind fun d1 => (view y).bind fun d2 => (M.of (cmpD o d1 d2)).bind fun k => match k with
    | true => (ev Γ e).nox.bind fun z => (view y).bind fun d2 => (view z).bind fun d3 => (M.of (cmpD o' d2 d3)).bind fun r => M.ret (.dat (.bool r))
    | false => M.ret (.dat (.bool false))
  | .and a b => (ev Γ a).bind fun x => (truM x).bind fun k => match k with
    | true => ev Γ b
    | false => M.ret x
  | .or a b => (ev Γ a).bind fun x => (truM x).bind fun k => match k with
    | true => M.ret x
    | false => ev Γ b
  | .not a => ((ev Γ a).bind truM).bind fun k => M.ret (.dat (.bool (!k)))
  | .ite t a b => ((ev Γ t).bind truM).bind fun k => match k with
    | true => ev Γ a
    | false => ev Γ b
  | .tup es => (evs Γ es).bind fun ss => (toDs Γ.r ss).bind fun ds => fun A => if ds.length ≤ 1000000 then some (.ok (.dat (.tuple ds)) A) else none
  | .lst fr es => (evs Γ es).bind fun ss => (toDs Γ.r ss).bind fun ds => alloc fr ds
  | .idx a b => (ev Γ a).bind fun x => (ev Γ b).bind fun y => (view x).bind fun d => (view y).bind fun e => (M.of (ixD d e)).bind fun r => M.ret (.dat r)
  | .cat fr a b => (ev Γ a).nox.bind fun x => (ev Γ b).nox.bind fun y => catF fr x y
  | .rep fr a b => (ev Γ a).nox.bind fun x => (ev Γ b).nox.bind fun y => (view y).bind fun d => repF fr x d
  | .slc a lo hi => (ev Γ a).nox.bind fun x => (evO Γ lo).nox.bind fun l => (evO Γ hi).nox.bind fun h => (view x).bind fun d => (M.of (slD d l h)).bind fun r => M.ret (.dat r)
  | .isi a T => (ev Γ a).nox.bind fun x => (view x).bind fun d => (M.of (tyD d)).bind fun S => (M.of (kitB S T)).bind fun k => M.ret (.dat (.bool k))
  | .isx i C => fun A => match A.ρ[i]? with
    | some (.exc D) => match Γ.sub D C with
      | some b => some (.ok (.dat (.bool b)) A)
      | none => none
    | _ => none
  | .bits a => (ev Γ a).nox.bind fun x => (view x).bind fun d => match d with
    | .int i => fun A => if 0 ≤ i ∧ i < 2 ^ 100000 then some (.ok (.dat (.int (Eng.pop i.toNat : Nat))) A) else none
    | _ => fun _ => none
  | .blen a => (ev Γ a).nox.bind fun x => (view x).bind fun d => match d with
    | .int i => M.ret (.dat (.int (Builtin.Int.intBits i : Nat)))
    | _ => fun _ => none
  | .sortr fr a => (ev Γ a).nox.bind fun x => (view x).bind fun d => match d with
    | .list l => (M.of (intsD l)).bind fun is => alloc fr ((sortI is).reverse.map .int)
    | _ => fun _ => none
  | .call f m fr es => (evs Γ es).bind fun ss => callF Γ f m fr ss
  | .bi f fr es => (evs Γ es).bind fun ss => (views ss).bind fun ds => match biF f ds with
    | some d => if fr = true then fun _ => none else M.ret (.dat d)
    | none => match biL f ds with
      | some l => alloc fr l
      | none => match biT f ds with
        | some l => M.ret (.dat (.tuple l))
        | none => fun _ => none
  | .com fr elt tg it ifs vs => (evI Γ it).nox.bind fun ds => fun A => if 1000000 < ds.length then none else match comGo tg vs (evTs Γ ifs) (ev Γ elt) Γ.r ds [] ⟨wipeV A.ρ vs, A.μ⟩ with
    | some (.ok acc A1) => alloc fr acc A1
    | _ => none
def evs (Γ : Gm) : Tms → M (List SV)
  | .nil => M.ret []
  | .cons e es => (ev Γ e).bind fun x => (evs Γ es).bind fun xs => M.ret (x :: xs)
def evO (Γ : Gm) : Tms → M (Option Int)
  | .nil => M.ret none
  | .cons e es => match es with
    | .nil => (ev Γ e).nox.bind fun y => match y with
      | .dat (.int i) => M.ret (some i)
      | _ => fun _ => none
    | _ => fun _ => none
def evTs (Γ : Gm) : Tms → M Bool
  | .nil => M.ret true
  | .cons e es => match es with
    | .nil => (ev Γ e).bind truM
    | _ => fun _ => none
def evI (Γ : Gm) : Itr → M (List PyData)
  | .seq e => (ev Γ e).bind fun x => (toD Γ.r x).bind fun d => M.of (seqD d)
  | .rng a => (ev Γ a).nox.bind fun x => (view x).bind fun d => match d with
    | .int n => fun A => if n ≤ 1000000 ∧ -1000000 ≤ n then some (.ok (rngD 0 n.toNat) A) else none
    | _ => fun _ => none
  | .rng2 a b => (ev Γ a).nox.bind fun x => (ev Γ b).nox.bind fun y => (view x).bind fun d => (view y).bind fun e => match d, e with
    | .int m, .int n => fun A => if (n ≤ 1000000 ∧ -1000000 ≤ n) ∧ (m ≤ 1000000 ∧ -1000000 ≤ m) then some (.ok (rngD m (n - m).toNat) A) else none
    | _, _ => fun _ => none
  | .enu a => (ev Γ a).nox.bind fun x => (toD Γ.r x).bind fun d => match d with
    | .list ds => M.ret (enumD ds)
    | _ => fun _ => none
  | .zip a b => (ev Γ a).nox.bind fun x => (ev Γ b).nox.bind fun y => (toD Γ.r x).bind fun d => (toD Γ.r y).bind fun e => match d, e with
    | .list ds, .list es => M.ret (zipD ds es)
    | _, _ => fun _ => none
end
/-! ### statements -/
inductive Fl where
  | nx (A : AS) | rt (v : SV) (A : AS) | bk (A : AS) | ct (A : AS) | ex (C : Str) (A : AS)
abbrev F := AS → Option Fl
def M.then {α : Type} (m : M α) (f : α → F) : F := fun A => match m A with
  | none => none
  | some (.ex c A1) => some (.ex c A1)
  | some (.ok a A1) => f a A1
def F.seq (a b : F) : F := fun A => match a A with
  | some (.nx A1) => b A1
  | o => o
def nxt (A : AS) : Option Fl := some (.nx A)
def forGo (tg : Tg) (ws : List Nat) (body : F) : List PyData → F
  | [] => nxt
  | d :: ds => fun A => match tgSet tg d A.ρ with
    | none => none
    | some ρ1 => match body ⟨ρ1, A.μ⟩ with
      | some (.nx A1) => forGo tg ws body ds ⟨wipeV A1.ρ ws, A1.μ⟩
      | some (.ct A1) => forGo tg ws body ds ⟨wipeV A1.ρ ws, A1.μ⟩
      | some (.bk A1) => some (.nx ⟨wipeV A1.ρ ws, A1.μ⟩)
      | o => o
def whGo (t : M Bool) (ws : List Nat) (body : F) : Nat → F
  | 0 => fun _ => none
  | n + 1 => fun A => match t A with
    | some (.ok true A1) => match body A1 with
      | some (.nx A2) => whGo t ws body n ⟨wipeV A2.ρ ws, A2.μ⟩
      | some (.ct A2) => whGo t ws body n ⟨wipeV A2.ρ ws, A2.μ⟩
      | some (.bk A2) => some (.nx ⟨wipeV A2.ρ ws, A2.μ⟩)
      | o => o
    | some (.ok false A1) => some (.nx A1)
    | _ => none
def putV (i : Nat) (s : SV) : F := fun A => some (.nx ⟨A.ρ.set i s, A.μ⟩)
mutual
def exS (Γ : Gm) : Sm → F
  | .asg i e => (ev Γ e).then fun s => putV i s
  | .asgT is e => (ev Γ e).then fun s => (view s).then fun d => match d with
    | .tuple ds => fun A => match setNs is ds A.ρ with
      | some ρ => some (.nx ⟨ρ, A.μ⟩)
      | none => none
    | _ => fun _ => none
  | .asgI a b e => (ev Γ e).then fun s => (toD Γ.r s).then fun x => (ev Γ a).then fun o => (ev Γ b).then fun i => (view i).then fun d => match o, d with
    | .own k, .int j => fun A => match A.μ[k]? with
      | some (.lst ds) => match ixN ds.length j with
        | some n => some (.nx ⟨A.ρ, A.μ.set k (.lst (ds.set n x))⟩)
        | none => none
      | _ => none
    | _, _ => fun _ => none
  | .aug i op e => fun A => match A.ρ[i]? with
    | some (.dat d) => ((ev Γ e).then fun s => (view s).then fun d2 => (M.of (binD op d d2)).then fun r => putV i (.dat r)) A
    | _ => none
  | .app a e => (ev Γ a).then fun o => (lstAt o).then fun k => (ev Γ e).then fun s => (toD Γ.r s).then fun x => fun A => match A.μ[k]? with
    | some (.lst ds) => if ds.length < 100000 then some (.nx ⟨A.ρ, A.μ.set k (.lst (ds ++ [x]))⟩) else none
    | _ => none
  | .ext a e => (ev Γ a).then fun o => (lstAt o).then fun k => (ev Γ e).then fun s => (lstAt s).then fun j => fun A => match A.μ[k]?, A.μ[j]? with
    | some (.lst ds), some (.lst es) => if ds.length + es.length ≤ 1000000 then some (.nx ⟨A.ρ, A.μ.set k (.lst (ds ++ es))⟩) else none
    | _, _ => none
  | .asg2 i j e => (ev Γ e).then fun s => fun A => some (.nx ⟨(A.ρ.set i s).set j s, A.μ⟩)
  | .gc => fun A => some (.nx (gcA Γ.r A))
  | .drop e => (ev Γ e).then fun _ => nxt
  | .ret e => (ev Γ e).then fun s => fun A => some (.rt s A)
  | .ite t a b => ((ev Γ t).bind truM).then fun k => match k with
    | true => exB Γ a
    | false => exB Γ b
  | .for_ tg it body ws => (evI Γ it).then fun ds => fun A => forGo tg ws (exB Γ body) ds ⟨wipeV A.ρ ws, A.μ⟩
  | .while_ t body ws => whGo ((ev Γ t).bind truM) ws (exB Γ body) 1000000
  | .raise C => fun A => some (.ex C A)
  | .try_ body C i suite => fun A => match exB Γ body A with
    | some (.ex D A1) => match Γ.sub D C with
      | none => none
      | some false => some (.ex D A1)
      | some true => match i with
        | none => match exB Γ suite A1 with
          | some (.ex _ _) => none
          | o => o
        | some j => match exB Γ suite ⟨A1.ρ.set j (.exc D), A1.μ⟩ with
          | some (.nx A2) => some (.nx (endX j A2))
          | some (.rt v A2) => some (.rt v (endX j A2))
          | some (.bk A2) => some (.bk (endX j A2))
          | some (.ct A2) => some (.ct (endX j A2))
          | _ => none
    | o => o
  | .pass => nxt
  | .brk => fun A => some (.bk A)
  | .cnt => fun A => some (.ct A)
def exB (Γ : Gm) : List Sm → F
  | [] => nxt
  | s :: ss => F.seq (exS Γ s) (exB Γ ss)
end
example (Γ : Gm) (d : PyData) (A : AS) : ev Γ (.dat d) A = some (.ok (.dat d) A) := rfl
example (Γ : Gm) (A : AS) : exB Γ [.ret (.bin .Add (.dat (.int 1)) (.dat (.int 2)))] A = some (.rt (.dat (.int 3)) A) := rfl
end Py

set_option Elab.async false
set_option linter.all false
set_option maxRecDepth 100000
set_option maxHeartbeats 2000000
namespace Eng
open PySem PySem.Spec PyProof.Rows L2
open Evl (Ex)
/-! ### texts by their codes -/
def mk (l : List Nat) : Str := ⟨l.toArray⟩
theorem mk_app (a b : List Nat) : mk a ++ mk b = mk (a ++ b) := by
  show (⟨a.toArray ++ b.toArray⟩ : Str) = ⟨(a ++ b).toArray⟩
  rw [List.append_toArray]
theorem mk_len (a : List Nat) : (mk a).length = a.length := by simp [mk, Str.length]
theorem mk_list (a : List Nat) : (mk a).cps.toList = a := by simp [mk]
theorem mk_of (s : Str) : s = mk s.cps.toList := by cases s; simp [mk]
theorem joinL_nil : ∀ ps : List (List Nat), TL.joinL [] ps = ps.flatten
  | [] => rfl
  | [p] => by simp [TL.joinL]
  | p :: q :: r => by
    show p ++ ([] ++ TL.joinL [] (q :: r)) = _
    rw [joinL_nil (q :: r)]
    simp
theorem join_mk (ps : List (List Nat)) : Txt.join (mk []) (ps.map mk) = mk ps.flatten := by
  have e := TL.tl_join (mk []) (ps.map mk)
  rw [← TL.join_eq] at e
  have e2 : (Txt.join (mk []) (ps.map mk)).cps.toList = ps.flatten := by
    refine Eq.trans e ?_
    show TL.joinL (mk []).cps.toList ((ps.map mk).map fun s => s.cps.toList) = _
    rw [mk_list, List.map_map, show ((fun s : Str => s.cps.toList) ∘ mk) = id from funext mk_list, List.map_id, joinL_nil]
  rw [mk_of (Txt.join _ _), e2]
section
variable {X : Cx} {c : Ct} {A : AS} {e a b : Expr} {es : List Expr} {pos p : Pos} {Q : PyData → Prop} {st : Stmt} {sts rest : List Stmt} {D : ADs} {N : List Str}
theorem od_addM {i j : List Nat} (hz : i.length + j.length ≤ 100000) (q : Q (.str (mk (i ++ j)))) : OpD X c (binaryOp .Add) (.str (mk i)) (.str (mk j)) Q :=
  ⟨_, op_add_str, fun _ _ G H v1 v2 s h1 h2 => ⟨mk i, mk j, dp_str h1, dp_str h2, by rw [mk_len, mk_len]; exact Evl.sz_of hz, G, _, s.refl, .str _, by rw [mk_app]; exact q⟩⟩
theorem we_join {o : Expr} {apos cpos : Pos} (h : WE X c o A fun d0 => d0 = .str (mk []) ∧ WE X c e A fun d => ∃ ps : List (List Nat), d = .list (ps.map fun l => .str (mk l)) ∧ ps.flatten.length ≤ 100000 ∧ Q (.str (mk ps.flatten)))
    (hbase : attributeBase o "join" X.env (eval o X.env) = eval o X.env)
    (hfew : ((backTo cpos (starEach [e] X.env)).all (fun x => !x.1) && (backToKw cpos (keywordEach [] X.env)).all (fun x => x.1.isSome) && decide ([e].length + ([] : List Keyword).length + (if ([] : List Keyword).isEmpty then 0 else 1) < 30)) = true)
    (hline : (apos.endLine == cpos.line) = true) (hs : starEach [e] X.env = (false, eval e X.env) :: starEach [] X.env) (hplain : (backTo cpos (starEach [] X.env)).any (·.1) = false) :
    WE X c (.Call (.Attribute o "join" apos) [e] [] cpos) A Q := fun G ps σ H S => by
  refine wE_of (pe_bm PySem.F.plainAttrs_str PySem.F.slot_str_join PySem.F.type_str_join mt_join pe_w (pa_cons pe_w pa_nil hs) hbase hfew hline hs hplain) (wE_mono (h G ps σ H S) fun v H1 ⟨G1, d, s1, r1, e1, q1⟩ => ?_)
  subst e1
  rw [dp_str r1]
  refine ⟨rfl, wE_mono (q1 G1 ps σ H1 (S.step s1)) fun v2 H2 ⟨G2, d2, s2, r2, ls, e2, hz, q⟩ => ?_⟩
  subst e2
  obtain ⟨q2, xs, rfl, hx, ha⟩ := dp_list r2
  have hstr : ∀ {vs : List V} (ls : List (List Nat)), DpAll X.K G2 vs (ls.map fun l => .str (mk l)) → vs = (ls.map mk).map V.str := by
    intro vs ls
    induction ls generalizing vs with
    | nil => intro h; cases h; rfl
    | cons l ls ih =>
      intro h
      cases h with
      | cons h1 h2 => rw [dp_str h1, ih h2]; rfl
  have ex := hstr ls ha
  subst ex
  refine ⟨mk [], q2, ls.map mk, rfl, rfl, .inl (Evl.ex_l s2.sub hx), ?_, G2, _, s1.trans s2, .str _, by rw [join_mk]; exact q⟩
  have e3 : ((ls.map mk).map (·.length)).sum + (ls.map mk).length * (mk []).length = ls.flatten.length := by
    rw [mk_len, List.map_map, List.length_flatten, show ((fun s : Str => s.length) ∘ mk) = List.length from funext mk_len]
    simp
  rw [e3]
  omega
/-- a constant of the module, by facts -/
theorem we_gl {K : PySem.W.Frag} {mg : Str → Option Value} {x : Str} {d : PyData} (g : Gc K mg x d) (he : X.K = K ∧ X.mg = mg) (hg : Gl X x) (hd : (x == ("__debug__" : Str)) = false) (q : Q d) : WE X c (.Name x pos) A Q := by
  obtain ⟨rfl, rfl⟩ := he
  exact we_glob g q hg hd
theorem od_shlN {n m k : Nat} (hn : n < 2 ^ k) (hm : k + m ≤ 134217728) (q : Q (.int ((n * 2 ^ m : Nat) : Int))) : OpD X c (binaryOp .LShift) (.int n) (.int m) Q := od_shl (shl_ok (n := k) (by rw [Int.natAbs_natCast]; exact hn) hm) (by
  have e : (n : Int) * 2 ^ (m : Int).toNat = ((n * 2 ^ m : Nat) : Int) := by
    rw [Int.toNat_natCast]; norm_cast
  rw [e]; exact q)
end
theorem gc_str {K : PySem.W.Frag} {mg : Str → Option Value} {x : Str} {s : Str} {t : Tok} (h : mg x = some (.str s t)) : Gc K mg x (.str s) := ⟨.str s, _, h, ⟨t, rfl⟩, fun _ => .str s⟩
theorem gc_int {K : PySem.W.Frag} {mg : Str → Option Value} {x : Str} {s : Int} {t : Tok} (h : mg x = some (.int s t)) : Gc K mg x (.int s) := ⟨.int s, _, h, ⟨t, rfl⟩, fun _ => .int s⟩
theorem gc_tup {K : PySem.W.Frag} {mg : Str → Option Value} {x : Str} {a : Addr} {od : Option Addr} {its : Array Value} {n : Nat} {sl : Array (Option Value)} {xs : List V} {ds : List PyData} (h : mg x = some (.ref a)) (l : K.lookup a = some ⟨.type "tuple", od, .seq its n, sl⟩) (hz : its.size ≤ 1000) (hv : Vals xs its.toList) (hd : ∀ G, DpAll K G xs ds) : Gc K mg x (.tuple ds) :=
  ⟨.ref a, _, h, rfl, fun G => .tup (.inr ⟨_, its, n, l, rfl, rfl, Evl.sz_of (by omega), hv⟩) (hd G)⟩
end Eng

set_option Elab.async false
set_option linter.all false
set_option maxRecDepth 100000
set_option maxHeartbeats 2000000
namespace Eng
open PySem PySem.Spec PyProof.Rows L2
open Evl (Ex)
section
variable {X : Cx} {c : Ct} {A : AS} {e a b : Expr} {es : List Expr} {pos p : Pos} {Q : PyData → Prop} {st : Stmt} {sts rest : List Stmt} {D : ADs} {N : List Str}
/-! ### slices of lists -/
def cutP (ds : List PyData) (lo hi : Option Int) : List PyData := (ds.drop (HT.sIx ds.length 0 lo)).take (HT.sIx ds.length ds.length hi - HT.sIx ds.length 0 lo)
theorem dall_drop {K : PySem.W.Frag} {G : Hp} : ∀ {vs : List V} {ds : List PyData} (n : Nat), DpAll K G vs ds → DpAll K G (vs.drop n) (ds.drop n)
  | _, _, 0, h => h
  | _, _, _ + 1, .nil => .nil
  | _, _, n + 1, .cons _ t => dall_drop n t
theorem dall_take {K : PySem.W.Frag} {G : Hp} : ∀ {vs : List V} {ds : List PyData} (n : Nat), DpAll K G vs ds → DpAll K G (vs.take n) (ds.take n)
  | _, _, 0, _ => .nil
  | _, _, _ + 1, .nil => .nil
  | _, _, n + 1, .cons r t => .cons r (dall_take n t)
theorem dall_cut {K : PySem.W.Frag} {G : Hp} {vs : List V} {ds : List PyData} {lo hi : Option Int} (h : DpAll K G vs ds) : DpAll K G (cutV vs lo hi) (cutP ds lo hi) := by
  unfold cutV cutP
  rw [dall_len h]
  exact dall_take _ (dall_drop _ h)
def wO (X : Cx) (e : Option Expr) : TO := fun σ H Q => match e with
  | none => Q none H
  | some x => wE X x σ H fun v H' => ∃ i, v = .int i ∧ Q (some i) H'
def WO (X : Cx) (c : Ct) (e : Option Expr) (A : AS) (Q : Option Int → Prop) : Prop := match e with
  | none => Q none
  | some x => WE X c x A fun d => ∃ i, d = .int i ∧ Q (some i)
theorem wl_sl {lo hi : Option Expr} {p2 : Pos} {Q : List PyData → Prop} (h : WE X c a A fun d => WO X c lo A fun l => WO X c hi A fun u => ∃ ds, d = .list ds ∧ Q (cutP ds l u)) : WL X c (.Subscript a (.Slice lo hi none p2) pos) A Q := fun G ps σ H S => by
  have po : ∀ e : Option Expr, ∃ t, PO X e t ∧ ∀ σ H Q, wO X e σ H Q → t σ H Q := fun e => by
    cases e with
    | none => exact ⟨_, po_none, fun _ _ _ h => h⟩
    | some x => exact ⟨_, po_some pe_w, fun _ _ _ h => h⟩
  obtain ⟨tl, hl, kl⟩ := po lo
  obtain ⟨th, hh, kh⟩ := po hi
  have go : ∀ (e : Option Expr) (P : Option Int → Prop) G σ H (S : St X.K c A G ps σ H), WO X c e A P → wO X e σ H fun o H' => ∃ G', Stp X.K c.pa G H G' H' ∧ P o := fun e P G σ H S w => by
    cases e with
    | none => exact ⟨G, S.refl, w⟩
    | some x => exact wE_mono (w G ps σ H S) fun v H' ⟨G', d, s, r, i, e1, q⟩ => by subst e1; exact ⟨i, dp_int r, G', s, q⟩
  have wOm : ∀ (e : Option Expr) σ H (Q Q' : Option Int → Hp → Prop), wO X e σ H Q → (∀ o H', Q o H' → Q' o H') → wO X e σ H Q' := fun e σ H Q Q' w k => by
    cases e with
    | none => exact k _ _ w
    | some x => exact wE_mono w fun v H' ⟨i, e1, q⟩ => ⟨i, e1, k _ _ q⟩
  refine wE_of (pe_slice sl_list pe_w hl hh) (wE_mono (h G ps σ H S) fun v H1 ⟨G1, d, s1, r1, q1⟩ => ?_)
  have S1 := S.step s1
  refine kl _ _ _ (wOm _ _ _ _ _ (go lo _ G1 σ H1 S1 q1) fun l H2 ⟨G2, s2, q2⟩ => ?_)
  have S2 := S1.step s2
  refine kh _ _ _ (wOm _ _ _ _ _ (go hi _ G2 σ H2 S2 q2) fun u H3 ⟨G3, s3, ds, e1, q⟩ => ?_)
  subst e1
  obtain ⟨p, xs, rfl, hs, ha⟩ := dp_list r1
  have s23 := s2.trans s3
  have s13 := s1.trans s23
  refine ⟨p, xs, rfl, Evl.ex_l (fun b o z => s23.sub b o (s23.ex b o z)) hs, fun q hq => ?_⟩
  refine ⟨G3, _, s13.trans (s13.lay hq), ⟨q, _, rfl, ?_, Evl.fresh_back s13.sub hq, upd_same, dall_cut (dp_upAll s23.ex _ ha)⟩, ‹Q _›⟩
  cases q2 : H q with
  | none => rfl
  | some o => exact absurd hq (s13.live q (by rw [q2]; exact fun z => nomatch z))

/-! ### isinstance of data -/
def IsiD (d : PyData) (cl : String) (Q : PyData → Prop) : Prop := ∃ T bb, tyD d = some T ∧ kitB T cl = some bb ∧ Q (.bool bb)
theorem we_isi {cl : String} {cp : Pos} (hm : X.mg "isinstance" = none) (hm2 : X.mg (Str.ofString cl) = none) (h : WE X c e A fun d => IsiD d cl Q) (hv2 : bootBuiltins (Str.ofString cl) = some (.type cl)) (hg2 : Gl X (Str.ofString cl)) (hn2 : Str.ofString cl ≠ "__name__") (hd2 : (Str.ofString cl == ("__debug__" : Str)) = false)
    (hg : Gl X "isinstance") (hs1 : starEach [e, .Name (Str.ofString cl) cp] X.env = (false, eval e X.env) :: starEach [.Name (Str.ofString cl) cp] X.env) (hs2 : starEach [.Name (Str.ofString cl) cp] X.env = (false, eval (.Name (Str.ofString cl) cp) X.env) :: starEach [] X.env) (hpl : (backTo pos (starEach [.Name (Str.ofString cl) cp] X.env)).any (·.1) = false) (hv : bootBuiltins "isinstance" = some (.builtin "isinstance")) :
    WE X c (.Call (.Name "isinstance" p) [e, .Name (Str.ofString cl) cp] [] pos) A Q := fun G ps σ H S =>
  wE_of (pe_callB call_isi hg hm hv (pa_cons pe_w (pa_cons (pe_bltn hg2 hm2 hv2 (v := .ty cl) rfl hn2 hd2) pa_nil hs2) hs1) (by decide) (by decide) hs1 hpl) (wE_mono (h G ps σ H S) fun v H1 ⟨G1, d, s1, r1, T, bb, e1, e2, q⟩ =>
    ⟨v, .ty cl, .type T, .type cl, bb, rfl, .ty cl, tyX_of s1.sub r1 e1, kit_ty e2, G1, _, s1, .bl bb, q⟩)

/-! ### x[j] = e by facts -/
theorem ws_sO {i k : Nat} {x : Str} {px ipos : Pos} {ds : List PyData} (hN : N[i]? = some x) (eN : X.N = N) (hρ : A.ρ[i]? = some (.own k)) (hm : A.μ[k]? = some (some ds)) (hv : Vis X.env.scope x) (hd : ((x == ("__debug__" : Str)) = false) ∧ (x == ("__classdict__" : Str)) = false)
    (ha : ∀ v, assign (.Subscript (.Name x px) b ipos) X.env v = (do
      let ov ← holding [v] (eval (.Name x px) X.env)
      let iv ← holding [v, ov] (eval b X.env)
      standAt ipos
      holding [v, ov, iv] (setItem ov iv v)
      release [v, ov, iv] []))
    (hs : swapsWithSole [.Subscript (.Name x px) b ipos] e pos.line X.env = pure false) (hw : swappedStores [.Subscript (.Name x px) b ipos] e X.env = pure none) (h1 : (assignEach [.Subscript (.Name x px) b ipos] X.env).map (·.2) = [assign (.Subscript (.Name x px) b ipos) X.env])
    (h : WE X c e A fun d => WE X c b A fun d2 => ∃ j : Nat, d2 = .int j ∧ j < ds.length ∧ D.nx ⟨A.ρ, A.μ.set k (some (ds.set j d))⟩) : WS X c (.Assign [.Subscript (.Name x px) b ipos] e pos) A D :=
  ws_setO hρ hm h (by rw [eN]; exact hN) hv hd.1 hd.2 ha hs hw h1
/-- a list of the pool's shape becomes the pool; what follows is asked of a new beginning -/
theorem ws_pool {i : Nat} {x : Str} {px : Pos} (hN : N[i]? = some x) (eN : X.N = N) (hnd : N.Nodup) (hx : Loc X.env.scope x) (hf : X.fn x = true ∨ X.env.scope.names.lookup x = some .local)
    (hs : swapsWithSole [.Name x px] e pos.line X.env = pure false) (hw : swappedStores [.Name x px] e X.env = pure none) (h1 : (assignEach [.Name x px] X.env).map (·.2) = [assign (.Name x px) X.env])
    (hpa : c.pa = none) (hfx : c.fx = []) (hμ : A.μ = []) (hbk : ∀ A, ¬ D.bk A) (hct : ∀ A, ¬ D.ct A)
    (h : WL X c e A fun ds => ∃ (ns : List Int) (i' c' d' s' : Int), ds = [.list (ns.map .int), .int i', .int c', .int d', .int s'] ∧ 0 ≤ i' ∧ ns.length ≤ 63 ∧ ∀ c2 : Ct, c2.fx = [] → WB X c2 rest ⟨A.ρ.set i .pool, []⟩ { nx := fun _ => ∀ A, D.nx A, rt := fun r _ => ∀ A, D.rt r A }) :
    WB X c (.Assign [.Name x px] e pos :: rest) A D := fun G ps σ H S => by
  refine wB_of (pss_cons (ps_asg pe_w (pg_name (by rw [eN]; exact hnd) (by rw [eN]; exact hN) hx hf) hs hw h1) pss_w) (wE_mono (h G ps σ H S) fun v H1 ⟨G1, ds, s, ⟨p, xs, e1, h0, hg, hp, hd⟩, ns, i', c', d', s', e2, b1, b2, k⟩ => ?_)
  subst e1
  subst e2
  have S1 := S.step s
  have nops : ps = [] := by
    have := S.mlen
    rw [hμ] at this
    exact List.eq_nil_of_length_eq_zero this
  subst nops
  have pok : PoolOk X.K G1 H1 p := by
    cases hd with
    | cons q1 t1 => cases t1 with
      | cons q2 t2 => cases t2 with
        | cons q3 t3 => cases t3 with
          | cons q4 t4 => cases t4 with
            | cons q5 t5 =>
              cases t5
              cases q2; cases q3; cases q4; cases q5
              obtain ⟨l, ys, e3, hl, hy⟩ := dp_list q1
              subst e3
              rw [dall_ints_inv hy] at hl
              exact ⟨l, ns, i', c', d', s', hp, hl, b1, b2⟩
  have hne : H1 p ≠ none := pok.ne
  have St2 : Stp X.K (some p) G1 H1 G1 H1 := ⟨Ex.refl _, fun _ _ z => z, fun _ _ _ z => z, S1.st.sub, fun a ha => by
    have ea : p = a := Option.some.inj ha
    subst ea
    exact ⟨hne, hg, pok⟩⟩
  have S2 : St X.K ⟨H1, G1, some p, []⟩ ⟨A.ρ.set i .pool, []⟩ G1 [] (σ.set i (some (.ref p))) H1 := by
    refine ⟨St2, by show (σ.set i (some (V.ref p))).length = (A.ρ.set i SV.pool).length; rw [List.length_set, List.length_set]; exact S.len, fun j sv e => ?_, rfl, fun i j p hi => by simp at hi, fun i p hi => by simp at hi, fun p hp => by simp at hp, fun k p ds hk => by simp at hk⟩
    have e' : (A.ρ.set i .pool)[j]? = some sv := e
    show SlotOk X.K (some p) G1 [] (σ.set i (some (V.ref p)))[j]? sv
    by_cases z : i = j
    · subst z
      rw [List.getElem?_set_self'] at e'
      have hl : i < A.ρ.length := by
        cases q : A.ρ[i]? with
        | none => rw [q] at e'; cases e'
        | some y => exact (List.getElem?_eq_some_iff.mp q).1
      rw [List.getElem?_eq_getElem hl] at e'
      have e2 : SV.pool = sv := Option.some.inj e'
      subst e2
      exact ⟨p, rfl, by rw [List.getElem?_set_self (by rw [S.len]; exact hl)]⟩
    · rw [List.getElem?_set_ne z] at e' ⊢
      have old := S1.sl j sv e'
      cases sv with
      | dat d => exact old
      | own k =>
        obtain ⟨q, hq, _⟩ := old
        simp at hq
      | pool =>
        obtain ⟨a, ha, _⟩ := old
        rw [hpa] at ha
        cases ha
      | any => exact True.intro
  have back : ∀ {G' H'}, Stp X.K (some p) G1 H1 G' H' → Stp X.K c.pa c.B0 c.H0 G' H' := fun {G' H'} t => by
    have s0 := S1.st
    have n0 : c.H0 p = none := by
      cases q : c.H0 p with
      | none => rfl
      | some o => exact absurd h0 (S.st.live p (by rw [q]; exact fun z => nomatch z))
    refine ⟨s0.ex.trans t.ex, fun b hb g => t.fr b (s0.live b hb) (s0.fr b hb g), fun b o hb q => t.keep b o (fun z => ?_) (s0.keep b o hb q), t.sub, fun a ha => by rw [hpa] at ha; cases ha⟩
    have ez : p = b := Option.some.inj z
    subst ez
    rw [n0] at q
    cases q
  refine wB_mono (k ⟨H1, G1, some p, []⟩ rfl G1 [] _ H1 S2) (fun σ' H' ⟨A', G', ps', e', S', q⟩ => ?_) (fun v H' ⟨r, A', G', ps', σ', S', ro, q⟩ => ?_) (fun σ' H' ⟨A', G', ps', e', S', q⟩ => q.elim) (fun σ' H' ⟨A', G', ps', e', S', q⟩ => q.elim)
  · refine ⟨⟨σ'.map fun _ => .any, []⟩, G', [], s.ex.trans e', ⟨back S'.st, by show σ'.length = (σ'.map _).length; rw [List.length_map], fun j sv e => ?_, rfl, fun i j p hi => by simp at hi, fun i p hi => by rw [hfx] at hi; simp at hi, fun p hp => by simp at hp, fun k p ds hk => by simp at hk⟩, q _⟩
    have e' : (σ'.map fun _ => SV.any)[j]? = some sv := e
    rw [List.getElem?_map] at e'
    cases q2 : σ'[j]? with
    | none => rw [q2] at e'; cases e'
    | some y =>
      rw [q2] at e'
      have e3 : SV.any = sv := Option.some.inj e'
      subst e3
      exact True.intro
  · refine ⟨r, ⟨σ'.map fun _ => .any, []⟩, G', [], σ', ⟨back S'.st, by show σ'.length = (σ'.map _).length; rw [List.length_map], fun j sv e => ?_, rfl, fun i j p hi => by simp at hi, fun i p hi => by rw [hfx] at hi; simp at hi, fun p hp => by simp at hp, fun k p ds hk => by simp at hk⟩, ?_, q _⟩
    · have e' : (σ'.map fun _ => SV.any)[j]? = some sv := e
      rw [List.getElem?_map] at e'
      cases q2 : σ'[j]? with
      | none => rw [q2] at e'; cases e'
      | some y =>
        rw [q2] at e'
        have e3 : SV.any = sv := Option.some.inj e'
        subst e3
        exact True.intro
    · cases r with
      | D d => exact ro
      | L ds => exact ro.back fun b hb => S1.st.live b hb
end
/-! ### a def that changes the pool it is given -/
theorem def_pool {P : Program} {w : World} {K : PySem.W.Frag} {mg : Str → Option Value} {base : Heap} {x qual : Str} {st : Stmt} {f : Addr} {fd : FuncData} {N ps : List Str} {k : Nat} (F : Fun K x qual st f fd) (S : FnScope N ps (defScope st)) (hn : ps.length = 2) {ok : Int → Prop}
    (body : ∀ (cdv : Value) (A : Around) (outer : List Env) (s : Shared) (H : Hp) (E : XK) (c : Ct) (many : Int) (ns : List Int) (i c0 d s0 : Int), Room k (A.deeper (envOfC qual (defScope st) s.heap.objs.size f cdv)) → ok many → ns.length ≤ 63 → 0 ≤ i →
      WB (cxOf CX0 P w K mg base N qual (defScope st) f cdv A outer s H E).nox c (defBody st) ⟨[.own 0, .dat (.int many)] ++ List.replicate (N.length - 2) .any, [some [.list (ns.map .int), .int i, .int c0, .int d, .int s0]]⟩
        { nx := fun _ => False, rt := fun r A => ∃ n : Int, r = .D (.int n) ∧ 0 ≤ n ∧ n < many ∧ ∃ i' c' d' s' : Int, A.μ[0]? = some (some [.list (ns.map .int), .int i', .int c', .int d', .int s']) ∧ 0 ≤ i' }) :
    FnOk P w K mg base CX0 (k + 1) f fd ps (lift K 2 fun as Q => ∃ many : Int, as = [.pool, .dat (.int many)] ∧ ok many ∧ ∀ v : Int, 0 ≤ v → v < many → Q (.D (.int v))) := by
  refine F.ok S (fun vs H Q E h => ?_) (fun cdv A outer s H vs Q E hr h => ?_)
  · obtain ⟨G, pa, as, s, h, hl, _⟩ := h
    rw [h.len, hl, hn]
  · obtain ⟨G, pa, as, st0, h, hl, many, rfl, hok, q⟩ := h
    match vs, h with
    | [v0, v1], ⟨⟨a, ha, e0⟩, r1, _⟩ =>
    subst e0
    subst ha
    obtain ⟨ne, gn, l, ns, i, c0, d, s0, hp, hl2, hi, hns⟩ := st0.pool a rfl
    refine ⟨_, pss_w, ?_⟩
    have e1 : v1 = .int many := dp_int r1
    subst e1
    have hne : (fun b => if b = a then none else H b : Hp) a = none := if_pos rfl
    have stp0 : Stp K none G (fun b => if b = a then none else H b) G H := ⟨Ex.refl _, fun _ _ z => z, fun b o _ z => by
      by_cases zb : b = a
      · rw [if_pos zb] at z; cases z
      · rw [if_neg zb] at z; exact z, st0.sub, fun _ z => nomatch z⟩
    have S0 : St K ⟨fun b => if b = a then none else H b, G, none, [a]⟩ ⟨[.own 0, .dat (.int many)] ++ List.replicate (N.length - 2) .any, [some [.list (ns.map .int), .int i, .int c0, .int d, .int s0]]⟩ G [a] (L2.start N [.ref a, .int many]) H := by
      refine ⟨stp0, ?_, fun j sv e => ?_, rfl, fun i j p hi hj => ?_, fun i p hi => hi, fun p hp' => ?_, fun k' p ds hk hm => ?_⟩
      · show (L2.start N [V.ref a, V.int many]).length = ([SV.own 0, SV.dat (.int many)] ++ List.replicate (N.length - 2) SV.any).length
        simp [L2.start]
      · have e' : ([SV.own 0, SV.dat (.int many)] ++ List.replicate (N.length - 2) SV.any)[j]? = some sv := e
        show SlotOk K none G [a] ([some (V.ref a), some (V.int many)] ++ List.replicate (N.length - 2) none)[j]? sv
        match j, e' with
        | 0, e' =>
          have e2 : SV.own 0 = sv := Option.some.inj e'
          subst e2
          exact ⟨a, rfl, rfl⟩
        | 1, e' =>
          have e2 : SV.dat (.int many) = sv := Option.some.inj e'
          subst e2
          exact ⟨_, rfl, .int many⟩
        | j + 2, e' =>
          have e2 : (List.replicate (N.length - 2) SV.any)[j]? = some sv := e'
          rw [List.getElem?_replicate] at e2
          split at e2
          · have e3 : SV.any = sv := Option.some.inj e2
            subst e3
            exact True.intro
          · cases e2
      · have one : ∀ {i : Nat} {p : Addr}, [a][i]? = some p → i = 0 := fun {i p} h => by
          cases i with
          | zero => rfl
          | succ n => simp at h
        rw [one hi, one hj]
      · have e2 : p = a := by simpa using hp'
        subst e2
        exact ⟨hne, by rw [hp]; exact fun z => nomatch z⟩
      · cases k' with
        | succ n => simp at hk
        | zero =>
          have e2 : a = p := Option.some.inj hk
          have e3 : [PyData.list (ns.map .int), .int i, .int c0, .int d, .int s0] = ds := Option.some.inj (Option.some.inj hm)
          subst e2; subst e3
          exact ⟨gn, _, hp, .cons (.lst hl2 dall_ints) (.cons (.int _) (.cons (.int _) (.cons (.int _) (.cons (.int _) .nil))))⟩
    refine wB_mono (body cdv A outer s H E _ many ns i c0 d s0 hr hok hns hi G [a] _ H S0) ?_ ?_ (fun _ _ z => ?_) fun _ _ z => ?_
    · rintro σ' H' ⟨A', G', ps', e', S', r⟩
      exact r.elim
    · rintro v H' ⟨r, A', G', ps', σ', S', ro, n, rfl, hn0, hn1, i', c', d', s', hμ, hi'⟩
      have hk : ps'[0]? = some a := S'.pre 0 a rfl
      obtain ⟨g', xs, hx, ha⟩ := S'.mu 0 a _ hk hμ
      refine q n hn0 hn1 v G' H' ⟨S'.st.ex, fun b hb g => ?_, fun b o hb z => S'.st.keep b o (fun y => nomatch y) ?_, S'.st.sub, fun a' ha' => ?_⟩ ro
      · by_cases zb : b = a
        · subst zb; exact g'
        · exact S'.st.fr b (by show (if b = a then none else H b) ≠ none; rw [if_neg zb]; exact hb) g
      · show (if b = a then none else H b) = some o
        rw [if_neg (fun y => hb (by rw [y]))]
        exact z
      · have ea : a = a' := Option.some.inj ha'
        subst ea
        refine ⟨ne, g', ?_⟩
        cases ha with
        | cons q1 t1 => cases t1 with
          | cons q2 t2 => cases t2 with
            | cons q3 t3 => cases t3 with
              | cons q4 t4 => cases t4 with
                | cons q5 t5 =>
                  cases t5
                  cases q2; cases q3; cases q4; cases q5
                  obtain ⟨l', ys, e3, hl3, hy⟩ := dp_list q1
                  subst e3
                  rw [dall_ints_inv hy] at hl3
                  exact ⟨l', ns, i', c', d', s', hx, hl3, hi', hns⟩
    · obtain ⟨_, _, _, _, _, z⟩ := z
      exact z
    · obtain ⟨_, _, _, _, _, z⟩ := z
      exact z
/-! ### own lists lent: an expression that changes nothing reads them as data -/
def bor (μ : List (Option (List PyData))) : SV → SV
  | .dat d => .dat d
  | .own k => match μ[k]? with
    | some (some ds) => .dat (.list ds)
    | _ => .any
  | .pool => .any
  | .any => .any
def AS.bor (A : AS) : AS := ⟨A.ρ.map (Eng.bor A.μ), []⟩
def flat : PyData → Bool
  | .none => true | .bool _ => true | .int _ => true | .str _ => true | _ => false
theorem flat_ok {K : PySem.W.Frag} {G G' : Hp} {v : V} {d : PyData} (f : flat d = true) (h : Dp K G v d) : Dp K G' v d := by
  cases h with
  | non => exact .non
  | bl b => exact .bl b
  | int b => exact .int b
  | str b => exact .str b
  | lst a b => cases f
  | tup a b => cases f
theorem flat_all {K : PySem.W.Frag} {G G' : Hp} : ∀ {vs : List V} {ds : List PyData}, ds.all flat = true → DpAll K G vs ds → DpAll K G' vs ds
  | _, [], _, h => by cases h; exact .nil
  | _, d :: ds, f, h => by
    rw [List.all_cons, Bool.and_eq_true] at f
    cases h with
    | cons h1 h2 => exact .cons (flat_ok f.1 h1) (flat_all f.2 h2)
theorem St.bor {K : PySem.W.Frag} {c : Ct} {A : AS} {G : Hp} {ps : List Addr} {σ : L2.St} {H : Hp} (S : St K c A G ps σ H) : St K ⟨H, H, none, []⟩ A.bor H [] σ H := by
  refine ⟨⟨Ex.refl _, fun _ h g => absurd g h, fun _ _ _ h => h, Ex.refl _, fun _ z => nomatch z⟩, ?_, fun i sv e => ?_, rfl, fun i j p hi => by simp at hi, fun i p hi => by simp at hi, fun p hp => by simp at hp, fun k p ds hk => by simp at hk⟩
  · show σ.length = (A.ρ.map _).length
    rw [List.length_map]; exact S.len
  · have e' : (A.ρ.map (Eng.bor A.μ))[i]? = some sv := e
    rw [List.getElem?_map] at e'
    cases q : A.ρ[i]? with
    | none => rw [q] at e'; cases e'
    | some s0 =>
      rw [q] at e'
      have e2 : Eng.bor A.μ s0 = sv := Option.some.inj e'
      subst e2
      have old := S.sl i s0 q
      cases s0 with
      | dat d =>
        obtain ⟨v, h1, h2⟩ := old
        exact ⟨v, h1, dp_up S.st.sub d h2⟩
      | pool => exact True.intro
      | any => exact True.intro
      | own k =>
        obtain ⟨p, hp, hs⟩ := old
        show SlotOk K none H [] σ[i]? (match A.μ[k]? with | some (some ds) => SV.dat (.list ds) | _ => SV.any)
        cases q2 : A.μ[k]? with
        | none => exact True.intro
        | some o =>
          cases o with
          | none => exact True.intro
          | some ds =>
            obtain ⟨g, xs, hx, ha⟩ := S.mu k p ds hp q2
            exact ⟨.ref p, hs, .lst (.inl (.inl hx)) (dp_upAll S.st.sub _ ha)⟩
theorem lent {K : PySem.W.Frag} {c : Ct} {A : AS} {G : Hp} {ps : List Addr} {σ : L2.St} {H G2 H2 : Hp} (S : St K c A G ps σ H) (s : Stp K none H H G2 H2) : Stp K c.pa G H G H2 :=
  ⟨Ex.refl _, fun _ _ g => g, fun b o _ h => s.keep b o (fun z => nomatch z) h, fun b o h => s.keep b o (fun z => nomatch z) (S.st.sub b o h), fun a ha => by
    obtain ⟨z1, z2, z3⟩ := S.st.pool a ha
    refine ⟨z3.ne, z2, ?_⟩
    obtain ⟨l, ns, i, cc, d, s0, h1, h2, h3⟩ := z3
    exact ⟨l, ns, i, cc, d, s0, s.keep a _ (fun z => nomatch z) h1, h2, h3⟩⟩
theorem we_bor {X : Cx} {c : Ct} {A : AS} {e : Expr} {Q : PyData → Prop} (h : ∀ c2 : Ct, WE X c2 e A.bor fun d => flat d = true ∧ Q d) : WE X c e A Q := fun G ps σ H S =>
  wE_mono (h ⟨H, H, none, []⟩ H [] σ H S.bor) fun v H2 ⟨G2, d, s, r, f, q⟩ => ⟨G, d, lent S s, flat_ok f r, q⟩
theorem wt_bor {X : Cx} {c : Ct} {A : AS} {e : Expr} {Q : Bool → Prop} (h : ∀ c2 : Ct, WT X c2 e A.bor Q) : WT X c e A Q := fun G ps σ H S =>
  wT_mono (h ⟨H, H, none, []⟩ H [] σ H S.bor) fun b H2 ⟨G2, s, q⟩ => ⟨G, lent S s, q⟩
theorem wl_bor {X : Cx} {c : Ct} {A : AS} {e : Expr} {Q : List PyData → Prop} (h : ∀ c2 : Ct, WL X c2 e A.bor fun ds => ds.all flat = true ∧ Q ds) : WL X c e A Q := fun G ps σ H S =>
  wE_mono (h ⟨H, H, none, []⟩ H [] σ H S.bor) fun v H2 ⟨G2, ds, s, ⟨p, xs, e1, h0, hg, h1, hd⟩, f, q⟩ => by
    refine ⟨G, ds, lent S s, ⟨p, xs, e1, h0, ?_, h1, flat_all f hd⟩, q⟩
    cases z : G p with
    | none => rfl
    | some o => exact absurd (S.st.sub p o z) (by rw [h0]; exact fun y => nomatch y)
theorem wb_cut {X : Cx} {c : Ct} {A : AS} {st : Stmt} {rest : List Stmt} {D : ADs} (M : AS → Prop) (h : WS X c st A { D with nx := M }) (k : ∀ A', M A' → WB X c rest A' D) : WB X c (st :: rest) A D :=
  wb_cons fun G ps σ H S pins s I => thn (h G ps σ H S pins s I) fun f s' q => by
    cases f with
    | next =>
      obtain ⟨σ', H', I', A', G', ps', e, S', q⟩ := q
      exact ⟨σ', H', I', A', G', ps', e, S', k A' q⟩
    | ret v => exact q
    | brk => exact q
    | cont => exact q
theorem ixo_go {ds : List PyData} {j : Int} {d : PyData} {Q : PyData → Prop} (h : atI ds j = some d) (q : Q d) : ∃ j' d, PyData.int j = .int j' ∧ atI ds j' = some d ∧ Q d := ⟨j, d, rfl, h, q⟩
theorem yes_go {P R : Prop} (p : P) : (true = true → P) ∧ (true = false → R) := ⟨fun _ => p, fun z => (nomatch z)⟩
theorem no_go {P R : Prop} (r : R) : (false = true → P) ∧ (false = false → R) := ⟨fun z => (nomatch z), fun _ => r⟩
def is_tup : PyData → Bool
  | .tuple _ => true
  | _ => false
theorem isi_tup {d : PyData} {Q : PyData → Prop} (h : (tyD d).isSome = true) (q : Q (.bool (is_tup d))) : IsiD d "tuple" Q := by
  cases d with
  | dict _ => cases h
  | none => exact ⟨"NoneType", false, rfl, by decide +kernel, q⟩
  | bool _ => exact ⟨"bool", false, rfl, by decide +kernel, q⟩
  | int _ => exact ⟨"int", false, rfl, by decide +kernel, q⟩
  | str _ => exact ⟨"str", false, rfl, by decide +kernel, q⟩
  | list _ => exact ⟨"list", false, rfl, by decide +kernel, q⟩
  | tuple _ => exact ⟨"tuple", true, rfl, by decide +kernel, q⟩
def is_lst : PyData → Bool
  | .list _ => true
  | _ => false
theorem isi_lst {d : PyData} {Q : PyData → Prop} (h : (tyD d).isSome = true) (q : Q (.bool (is_lst d))) : IsiD d "list" Q := by
  cases d with
  | dict _ => cases h
  | none => exact ⟨"NoneType", false, rfl, by decide +kernel, q⟩
  | bool _ => exact ⟨"bool", false, rfl, by decide +kernel, q⟩
  | int _ => exact ⟨"int", false, rfl, by decide +kernel, q⟩
  | str _ => exact ⟨"str", false, rfl, by decide +kernel, q⟩
  | list _ => exact ⟨"list", true, rfl, by decide +kernel, q⟩
  | tuple _ => exact ⟨"tuple", false, rfl, by decide +kernel, q⟩
def is_boo : PyData → Bool
  | .bool _ => true
  | _ => false
theorem isi_boo {d : PyData} {Q : PyData → Prop} (h : (tyD d).isSome = true) (q : Q (.bool (is_boo d))) : IsiD d "bool" Q := by
  cases d with
  | dict _ => cases h
  | none => exact ⟨"NoneType", false, rfl, by decide +kernel, q⟩
  | bool _ => exact ⟨"bool", true, rfl, by decide +kernel, q⟩
  | int _ => exact ⟨"int", false, rfl, by decide +kernel, q⟩
  | str _ => exact ⟨"str", false, rfl, by decide +kernel, q⟩
  | list _ => exact ⟨"list", false, rfl, by decide +kernel, q⟩
  | tuple _ => exact ⟨"tuple", false, rfl, by decide +kernel, q⟩
def is_str : PyData → Bool
  | .str _ => true
  | _ => false
theorem isi_str {d : PyData} {Q : PyData → Prop} (h : (tyD d).isSome = true) (q : Q (.bool (is_str d))) : IsiD d "str" Q := by
  cases d with
  | dict _ => cases h
  | none => exact ⟨"NoneType", false, rfl, by decide +kernel, q⟩
  | bool _ => exact ⟨"bool", false, rfl, by decide +kernel, q⟩
  | int _ => exact ⟨"int", false, rfl, by decide +kernel, q⟩
  | str _ => exact ⟨"str", true, rfl, by decide +kernel, q⟩
  | list _ => exact ⟨"list", false, rfl, by decide +kernel, q⟩
  | tuple _ => exact ⟨"tuple", false, rfl, by decide +kernel, q⟩
def is_int : PyData → Bool
  | .int _ => true
  | .bool _ => true
  | _ => false
theorem isi_int {d : PyData} {Q : PyData → Prop} (h : (tyD d).isSome = true) (q : Q (.bool (is_int d))) : IsiD d "int" Q := by
  cases d with
  | dict _ => cases h
  | none => exact ⟨"NoneType", false, rfl, by decide +kernel, q⟩
  | bool _ => exact ⟨"bool", true, rfl, by decide +kernel, q⟩
  | int _ => exact ⟨"int", true, rfl, by decide +kernel, q⟩
  | str _ => exact ⟨"str", false, rfl, by decide +kernel, q⟩
  | list _ => exact ⟨"list", false, rfl, by decide +kernel, q⟩
  | tuple _ => exact ⟨"tuple", false, rfl, by decide +kernel, q⟩
theorem set_go (j : Nat) {i : Int} {n : Nat} {P : Nat → Prop} (e : i = (j : Int)) (h : Nat.blt j n = true) (p : P j) : ∃ j' : Nat, PyData.int i = .int (j' : Int) ∧ j' < n ∧ P j' := ⟨j, by rw [e], Nat.blt_eq.mp h, p⟩
theorem at_ints {ns : List Int} {i : Int} (h0 : 0 ≤ i) (h1 : i < ns.length) : ∃ n, atI (ns.map PyData.int) i = some (.int n) := by
  obtain ⟨k, rfl⟩ := Int.eq_ofNat_of_zero_le h0
  have hk : k < ns.length := by omega
  exact ⟨ns[k], atI_nat (by rw [List.getElem?_map, List.getElem?_eq_getElem hk]; rfl)⟩
theorem we_cl {X : Cx} {c : Ct} {A : AS} {e : Expr} {es : List Expr} {pos p : Pos} {Q : PyData → Prop} {P : Program} {w : World} {K : PySem.W.Frag} {mg : Str → Option Value} {base : Heap} {x : Str} {n lev : Nat} {sp : DSpec} (C : Callee P w K mg base lev x n sp) (he : X.prog = P ∧ X.w = w ∧ X.K = K ∧ X.mg = mg ∧ X.base = base) (hr : Room lev X.A) (hg : Gl X x)
    (hdb : (x == ("__debug__" : Str)) = false) (hs : starEach (e :: es) X.env = (false, eval e X.env) :: starEach es X.env) (hpl : (backTo pos (starEach es X.env)).any (·.1) = false) (h : WA X c (e :: es) A fun as => as.length = n ∧ sp as fun r => Q r.frz) : WE X c (.Call (.Name x p) (e :: es) [] pos) A Q := by
  obtain ⟨rfl, rfl, rfl, rfl, rfl⟩ := he
  exact we_call C hr h hg hdb hs hpl
theorem wl_cl {X : Cx} {c : Ct} {A : AS} {e : Expr} {es : List Expr} {pos p : Pos} {Q : List PyData → Prop} {P : Program} {w : World} {K : PySem.W.Frag} {mg : Str → Option Value} {base : Heap} {x : Str} {n lev : Nat} {sp : DSpec} (C : Callee P w K mg base lev x n sp) (he : X.prog = P ∧ X.w = w ∧ X.K = K ∧ X.mg = mg ∧ X.base = base) (hr : Room lev X.A) (hg : Gl X x)
    (hdb : (x == ("__debug__" : Str)) = false) (hs : starEach (e :: es) X.env = (false, eval e X.env) :: starEach es X.env) (hpl : (backTo pos (starEach es X.env)).any (·.1) = false) (h : WA X c (e :: es) A fun as => as.length = n ∧ sp as fun r => ∃ ds, r = .L ds ∧ Q ds) : WL X c (.Call (.Name x p) (e :: es) [] pos) A Q := by
  obtain ⟨rfl, rfl, rfl, rfl, rfl⟩ := he
  exact wl_call C hr h hg hdb hs hpl
/-- what the law is asked: True, for every script -/
def spLaw (K : PySem.W.Frag) : Sp := fun vs H Q _ => ∃ (a : Addr) (ns : List Int), vs = [.ref a] ∧ SqL K H a (ns.map V.int) ∧ ns.length ≤ 63 ∧ ∀ H', Q (.bl true) H'
theorem def_law {P : Program} {w : World} {K : PySem.W.Frag} {mg : Str → Option Value} {base : Heap} {x qual : Str} {st : Stmt} {f : Addr} {fd : FuncData} {N : List Str} {k : Nat} (F : Fun K x qual st f fd) (S : FnScope N ["script"] (defScope st))
    (body : ∀ (cdv : Value) (A : Around) (outer : List Env) (s : Shared) (H : Hp) (E : XK) (c : Ct) (ns : List Int), Room k (A.deeper (envOfC qual (defScope st) s.heap.objs.size f cdv)) → c.pa = none → c.fx = [] → ns.length ≤ 63 →
      WB (cxOf CX0 P w K mg base N qual (defScope st) f cdv A outer s H E).nox c (defBody st) (entry N [.dat (.list (ns.map .int))]) { nx := fun _ => False, rt := fun r _ => r = .D (.bool true) }) : FnOk P w K mg base CX0 (k + 1) f fd ["script"] (spLaw K) := by
  refine F.ok S (fun vs H Q E h => ?_) (fun cdv A outer s H vs Q E hr h => ?_)
  · obtain ⟨a, ns, rfl, _⟩ := h
    rfl
  · obtain ⟨a, ns, rfl, hS, hl, q⟩ := h
    refine ⟨_, pss_w, ?_⟩
    have st0 : Stp K none H H H H := ⟨Ex.refl _, fun _ h g => absurd g h, fun _ _ _ h => h, Ex.refl _, fun _ z => nomatch z⟩
    refine wB_mono (body cdv A outer s H E ⟨H, H, none, []⟩ ns hr rfl rfl hl H [] _ H (start_ok (as := [.dat (.list (ns.map .int))]) st0 ⟨.lst hS dall_ints, True.intro⟩)) ?_ ?_ (fun _ _ z => ?_) fun _ _ z => ?_
    · rintro σ' H' ⟨A', G', ps', e', S', r⟩
      exact r.elim
    · rintro v H' ⟨r, A', G', ps', σ', S', ro, e⟩
      subst e
      rw [dp_bl ro]
      exact q H'
    · obtain ⟨_, _, _, _, _, z⟩ := z
      exact z
    · obtain ⟨_, _, _, _, _, z⟩ := z
      exact z
end Eng

set_option Elab.async false
set_option linter.all false
set_option maxRecDepth 100000
set_option maxHeartbeats 2000000
namespace Eng
open PySem PySem.Spec PyProof.Rows L2
open Evl (Ex)
/-! ### what is walked, by data -/
structure ItOk (K : PySem.W.Frag) (J : It) (G : Hp) (ds : List PyData) : Prop where
  go : ∀ i H, Ex G H → i < ds.length → J.go i H
  stop : ∀ i H, Ex G H → ds.length ≤ i → J.stop i H
  yld : ∀ i H x H', Ex G H → i < ds.length → J.yld i H x H' → H' = H ∧ ∃ d, ds[i]? = some d ∧ Dp K G x d
theorem ItOk.up {K : PySem.W.Frag} {J : It} {G G' : Hp} {ds : List PyData} (e : Ex G G') (h : ItOk K J G ds) : ItOk K J G' ds :=
  ⟨fun i H x l => h.go i H (e.trans x) l, fun i H x l => h.stop i H (e.trans x) l, fun i H x H' z l y => by
    obtain ⟨e1, d, e2, r⟩ := h.yld i H x H' (e.trans z) l y
    exact ⟨e1, d, e2, dp_up e d r⟩⟩
theorem itok_list {K : PySem.W.Frag} {G : Hp} {a : Addr} {xs : List V} {ds : List PyData} (h : SqL K G a xs) (ha : DpAll K G xs ds) : ItOk K (Itl K a) G ds where
  go := fun i H e l => ⟨xs, xs[i]'(by rw [dall_len ha]; exact l), Evl.ex_l e h, List.getElem?_eq_getElem _⟩
  stop := fun i H e l => ⟨xs, Evl.ex_l e h, by rw [dall_len ha]; exact l⟩
  yld := fun i H x H' e l y => ⟨y.1, by
    obtain ⟨d, hd, r⟩ := dall_getV ha (y.2 xs (Evl.ex_l e h))
    exact ⟨d, hd, r⟩⟩
theorem itok_tup {K : PySem.W.Frag} {G : Hp} {a : Addr} {xs : List V} {ds : List PyData} (h : SqT K G a xs) (ha : DpAll K G xs ds) : ItOk K (Itt K a) G ds where
  go := fun i H e l => ⟨xs, xs[i]'(by rw [dall_len ha]; exact l), Evl.ex_t e h, List.getElem?_eq_getElem _⟩
  stop := fun i H e l => ⟨xs, Evl.ex_t e h, by rw [dall_len ha]; exact l⟩
  yld := fun i H x H' e l y => ⟨y.1, by
    obtain ⟨d, hd, r⟩ := dall_getV ha (y.2 xs (Evl.ex_t e h))
    exact ⟨d, hd, r⟩⟩
def rngD (n : Nat) : List PyData := (List.range n).map fun (k : Nat) => PyData.int (k : Int)
theorem rngD_get {n i : Nat} (h : i < n) : (rngD n)[i]? = some (.int (i : Int)) := by
  unfold rngD
  rw [List.getElem?_map, List.getElem?_range h]; rfl
theorem rngD_len (n : Nat) : (rngD n).length = n := by unfold rngD; rw [List.length_map, List.length_range]
theorem itok_rng {K : PySem.W.Frag} {G : Hp} (n : Nat) : ItOk K (Itr 0 n) G (rngD n) where
  go := fun i H e l => by rw [rngD_len] at l; exact l
  stop := fun i H e l => by rw [rngD_len] at l; exact l
  yld := fun i H x H' e l y => ⟨y.1, .int (i : Int), rngD_get (by rw [rngD_len] at l; exact l), by
    have e2 : x = .int (0 + (i : Int)) := y.2
    rw [e2, Int.zero_add]
    exact .int _⟩
def wI (X : Cx) (tg it : Expr) : TI := fun σ H R => ∀ pins s, Inv X pins σ H s → wpAny (model X.prog X.w) X.A (eval it X.env) (fun v s1 => wpAny (model X.prog X.w) X.A (pyIter v) (PIE X pins σ tg R) X.xe s1) X.xe s
theorem pi_w {X : Cx} {tg it : Expr} : PI X tg it (wI X tg it) := ⟨fun pins s _ _ _ I h => h pins s I⟩
theorem wI_of {X : Cx} {tg it : Expr} {wi : TI} {σ : L2.St} {H : Hp} {R : It → Hp → Prop} (h : PI X tg it wi) (q : wi σ H R) : wI X tg it σ H R := fun pins s I => h.run pins s σ H R I q
theorem wI_mono {X : Cx} {tg it : Expr} {σ : L2.St} {H : Hp} {R R' : It → Hp → Prop} (h : wI X tg it σ H R) (k : ∀ J H', R J H' → R' J H') : wI X tg it σ H R' := fun pins s I =>
  thn (h pins s I) fun v s1 q => thn q fun u s2 ⟨i, fp, tn, J, H', e, I', T, t0, f, r⟩ => ⟨i, fp, tn, J, H', e, I', T, t0, f, k J H' r⟩
/-- an iterable gives these items -/
def WI (X : Cx) (c : Ct) (tg it : Expr) (A : AS) (Q : List PyData → Prop) : Prop := ∀ G ps σ H, St X.K c A G ps σ H → wI X tg it σ H fun J H' => ∃ G' ds, Stp X.K c.pa G H G' H' ∧ ItOk X.K J G' ds ∧ Q ds
section
variable {X : Cx} {c : Ct} {A : AS} {e a b tg it n : Expr} {es : List Expr} {pos p p2 : Pos} {Q : PyData → Prop} {st : Stmt} {sts rest body : List Stmt} {D : ADs} {N : List Str}
theorem wi_list {Q : List PyData → Prop} (h : WE X c it A fun d => ∃ ds, d = .list ds ∧ Q ds) : WI X c tg it A Q := fun G ps σ H S =>
  wI_of (pi_list pe_w) (wE_mono (h G ps σ H S) fun v H1 ⟨G1, d, s1, r1, ds, e1, q⟩ => by
    subst e1
    obtain ⟨p, xs, rfl, hx, ha⟩ := dp_list r1
    exact ⟨p, rfl, ⟨xs, Evl.ex_l s1.sub hx⟩, G1, ds, s1, itok_list hx ha, q⟩)
theorem wi_tup {Q : List PyData → Prop} (h : WE X c it A fun d => ∃ ds, d = .tuple ds ∧ Q ds) : WI X c tg it A Q := fun G ps σ H S =>
  wI_of (pi_tup pe_w) (wE_mono (h G ps σ H S) fun v H1 ⟨G1, d, s1, r1, ds, e1, q⟩ => by
    subst e1
    obtain ⟨p, xs, rfl, hx, ha⟩ := dp_tup r1
    exact ⟨p, rfl, ⟨xs, Evl.ex_t s1.sub hx⟩, G1, ds, s1, itok_tup hx ha, q⟩)
theorem wi_rng {Q : List PyData → Prop} (hm : X.mg "range" = none) (h : WE X c n A fun d => ∃ m : Nat, d = .int (m : Int) ∧ m ≤ 1000000 ∧ Q (rngD m)) (hg : Gl X "range" := by rfl) (hst : starEach [n] X.env = (false, eval n X.env) :: starEach [] X.env := by rfl) (hst2 : starEach [n] X.env = [(false, eval n X.env)] := by rfl) :
    WI X c tg (.Call (.Name "range" p) [n] [] p2) A Q := fun G ps σ H S =>
  wI_of (pi_range1 hg hm (pa_cons pe_w pa_nil hst) hst2) (wE_mono (h G ps σ H S) fun v H1 ⟨G1, d, s1, r1, m, e1, hm, q⟩ => by
    subst e1
    refine ⟨(m : Int), by rw [dp_int r1], by omega, by omega, G1, _, s1, ?_, q⟩
    rw [Int.toNat_natCast]
    exact itok_rng m)

/-! ### targets of comprehensions -/
theorem wipe_set {j : Nat} {x y : Option V} : ∀ (σ : L2.St) (vs : List Nat), (L2.wipe (σ.set j x) vs).set j y = (L2.wipe σ vs).set j y
  | σ, [] => by show (σ.set j x).set j y = σ.set j y; rw [List.set_set]
  | σ, v :: vs => by
    show ((L2.wipe (σ.set j x) vs).set v none).set j y = ((L2.wipe σ vs).set v none).set j y
    by_cases h : v = j
    · subst h; rw [List.set_set, List.set_set]; exact wipe_set σ vs
    · rw [List.set_comm _ _ h, List.set_comm _ _ h, wipe_set σ vs]
theorem wipe_in {j : Nat} {x : Option V} : ∀ (σ : L2.St) (vs : List Nat), j ∈ vs → L2.wipe (σ.set j x) vs = L2.wipe σ vs
  | σ, v :: vs, h => by
    show (L2.wipe (σ.set j x) vs).set v none = (L2.wipe σ vs).set v none
    by_cases e : v = j
    · subst e; exact wipe_set σ vs
    · have hm : j ∈ vs := by
        rcases List.mem_cons.mp h with z | z
        · exact absurd z.symm e
        · exact z
      rw [wipe_in σ vs hm]
theorem wipe_idem : ∀ (σ : L2.St) (vs : List Nat), L2.wipe (L2.wipe σ vs) vs = L2.wipe σ vs
  | σ, [] => rfl
  | σ, v :: vs => by
    have e : L2.wipe σ (v :: vs) = (L2.wipe σ vs).set v none := rfl
    rw [e, wipe_in _ _ (List.mem_cons_self ..)]
    show (L2.wipe (L2.wipe σ vs) vs).set v none = _
    rw [wipe_idem σ vs]
def TgOk (X : Cx) (c : Ct) (g : TG) (vs : List Nat) (A0 : AS) (d : PyData) (A1 : AS) : Prop := ∀ G ps σ H v, St X.K c A0 G ps σ H → Dp X.K G v d → ∀ H', Ex G H' → ∀ k : L2.St → Hp → Prop, (∀ σ2, L2.wipe σ2 vs = L2.wipe σ vs → (∀ G2 H2, Stp X.K c.pa G H G2 H2 → St X.K c A1 G2 ps σ2 H2) → k σ2 H') → g v σ H' k
theorem tg_one {j : Nat} {vs : List Nat} {d : PyData} (hj : j ∈ vs) : TgOk X c (gName j) vs A d ⟨A.ρ.set j (.dat d), A.μ⟩ := fun G ps σ H v S r H' e k h =>
  h _ (wipe_in σ vs hj) fun G2 H2 s => (S.put r).step s
theorem tg_two {j1 j2 : Nat} {vs : List Nat} {d1 d2 : PyData} (h1 : j1 ∈ vs) (h2 : j2 ∈ vs) : TgOk X c (gTup X.K 2 (gCons (gName j1) (gCons (gName j2) gNil))) vs A (.tuple [d1, d2]) ⟨(A.ρ.set j1 (.dat d1)).set j2 (.dat d2), A.μ⟩ := fun G ps σ H v S r H' e k h => by
  obtain ⟨p, xs, rfl, hs, ha⟩ := dp_tup r
  cases ha with
  | cons r1 t1 => cases t1 with
    | cons r2 t2 =>
      cases t2
      refine ⟨p, _, rfl, Evl.ex_t e hs, rfl, _, _, rfl, _, _, rfl, rfl, ?_⟩
      refine h _ ?_ fun G2 H2 s => ((S.put r1).put (A := ⟨A.ρ.set j1 (.dat d1), A.μ⟩) r2).step s
      rw [wipe_in _ vs h2, wipe_in _ vs h1]

/-! ### comprehensions over anything -/
def LcJ (K : PySem.W.Frag) (pa : Option Addr) (G1 H1 Gb : Hp) (L : Addr) (P : List PyData → Prop) (n : Nat) (H' : Hp) : Prop :=
  ∃ G' xs acc, Stp K pa G1 H1 G' H' ∧ Ex Gb G' ∧ H' L = some (.lst xs) ∧ G' L = none ∧ DpAll K G' xs acc ∧ xs.length ≤ n ∧ P acc
theorem turn_gen {scope : Scope} {ifs : List Expr} {elt : Expr} {G1 H1 Gb G' : Hp} {L : Addr} {ps : List Addr} {σ2 : L2.St} {A1 : AS} {i : Nat} {H' : Hp} {P' : List PyData → Prop} {xs : List V} {acc : List PyData} (hL : H1 L = none) (hi : i < 10000000)
    (s : Stp X.K c.pa G1 H1 G' H') (eb : Ex Gb G') (hx : H' L = some (.lst xs)) (hg : G' L = none) (ha : DpAll X.K G' xs acc) (hl : xs.length ≤ i) (S' : St X.K c A1 G' ps σ2 H') (ht : Turn X c scope ifs elt A1 acc P') :
    bT X scope ifs σ2 H' fun b H3 => if b = true then bE X scope elt σ2 H3 fun y H4 => ∃ acc, H4 L = some (.lst acc) ∧ acc.length < sizeLine ∧ LcJ X.K c.pa G1 H1 Gb L P' (i + 1) (upd H4 L (.lst (acc ++ [y]))) else LcJ X.K c.pa G1 H1 Gb L P' (i + 1) H3 := by
  have nL : c.pa ≠ some L := fun z => (s.pool L z).1 hL
  intro s0 H0 C cl fp
  refine wTs_mono (ht s0 H0 C cl fp G' ps _ H' S') fun b H3 ⟨G3, s3, q1, q2⟩ => ?_
  have hx3 : H3 L = some (.lst xs) := s3.keep L _ nL hx
  have hg3 : G3 L = none := s3.fr L (by rw [hx]; exact fun z => nomatch z) hg
  cases b with
  | false => exact iteF ⟨G3, xs, acc, s.trans s3, eb.trans s3.ex, hx3, hg3, dp_upAll s3.ex _ ha, Nat.le_succ_of_le hl, q2 rfl⟩
  | true =>
    refine iteT fun s1 H1' C1 cl1 fp1 => wE_mono (q1 rfl s1 H1' C1 cl1 fp1 G3 ps _ H3 (S'.step s3)) fun y H4 ⟨G4, dy, s4, ry, q⟩ => ?_
    have hx4 : H4 L = some (.lst xs) := s4.keep L _ nL hx3
    have hg4 : G4 L = none := s4.fr L (by rw [hx3]; exact fun z => nomatch z) hg3
    refine ⟨xs, hx4, ?_, G4, xs ++ [y], acc ++ [dy], ((s.trans s3).trans s4).mut hL hg4, (eb.trans s3.ex).trans s4.ex, upd_same, hg4, dall_app (dp_upAll (s3.ex.trans s4.ex) _ ha) (.cons ry .nil), by rw [List.length_append]; exact Nat.add_le_add_right hl 1, q⟩
    have : sizeLine = 16777216 := sizeLine_eq
    omega
theorem lcj_end {G H G1 H1 Gb : Hp} {L : Addr} {P Q : List PyData → Prop} {n : Nat} {H' : Hp} (s1 : Stp X.K c.pa G H G1 H1) (hL : H1 L = none) (h : LcJ X.K c.pa G1 H1 Gb L P n H') (q : ∀ acc, P acc → Q acc) : LcW X c G H Q (.ref L) H' := by
  obtain ⟨G', xs, acc, s, eb, hx, hg, ha, hl, hp⟩ := h
  exact lc_end s1 hL ⟨G', xs, acc, s, hx, hg, ha, hl, hp⟩ q
/-- one clause -/
abbrev LcG (X : Cx) (c : Ct) (scope : Scope) (tg it : Expr) (ifs : List Expr) (elt : Expr) (g : TG) (vs : List Nat) (A : AS) (P : Nat → List PyData → Prop) (Q : List PyData → Prop) : Prop :=
  WI X c tg it A fun ds => ds.length ≤ 1000000 ∧ P 0 [] ∧ (∀ i x acc, ds[i]? = some x → P i acc → ∃ A1, TgOk X c g vs ⟨wipeA A.ρ vs, A.μ⟩ x A1 ∧ Turn X c scope ifs elt A1 acc (P (i + 1))) ∧ ∀ acc, P ds.length acc → Q acc
theorem lc_readG {scope : Scope} {elt : Expr} {ifs : List Expr} {g : TG} {vs : List Nat} {P : Nat → List PyData → Prop} {Q : List PyData → Prop} {G : Hp} {ps : List Addr} {σ : L2.St} {H : Hp} (h : LcG X c scope tg it ifs elt g vs A P Q) (S : St X.K c A G ps σ H) :
    tLc (wI X tg it) g (bT X scope ifs) (bE X scope elt) vs σ H (LcW X c G H Q) :=
  wI_mono (h G ps σ H S) fun J H1 ⟨G1, ds, s1, ok, hz, p0, ht, hd⟩ L hL => by
    have S1 := S.step s1
    have Sw := S1.wipe vs
    refine ⟨fun i m H' => m = ds.length - i ∧ i ≤ ds.length ∧ LcJ X.K c.pa G1 H1 G1 L (P i) i H', ⟨_, rfl, Nat.zero_le _, G1, [], [], S1.refl.lay hL, Ex.refl _, upd_same, Evl.fresh_back S1.st.sub hL, .nil, Nat.zero_le _, p0⟩, ?_⟩
    rintro i m H' ⟨rfl, hi, q⟩
    have exH : Ex G1 H' := by
      obtain ⟨G', _, _, s, _⟩ := q
      exact s.ex.trans s.sub
    by_cases hlt : i < ds.length
    · refine .inr ⟨ok.go i H' exH hlt, LcJ X.K c.pa G1 H1 G1 L (P (i + 1)) (i + 1), fun H2 q2 => ⟨ds.length - (i + 1), by omega, rfl, hlt, q2⟩, fun x H2 y => ?_⟩
      obtain ⟨e1, d, hdx, rd⟩ := ok.yld i H' x H2 exH hlt y
      subst e1
      obtain ⟨G', xs, acc, s, eb, hx, hg, ha, hl, hp⟩ := q
      obtain ⟨A1, tk, tn⟩ := ht i d acc hdx hp
      refine tk G1 ps _ H1 x Sw rd _ exH _ fun σ2 hw S2 => ⟨?_, ?_⟩
      · rw [hw, wipe_idem]
      · exact turn_gen hL (by omega) s eb hx hg ha hl (S2 G' _ s) tn
    · have e : i = ds.length := by omega
      subst e
      exact .inl ⟨ok.stop _ H' exH (Nat.le_refl _), lcj_end s1 hL q hd⟩
/-- two clauses, both without tests ahead of the second -/
def bI (X : Cx) (scope : Scope) (tg it : Expr) : TI := fun σ H R => ∀ (s : Shared) (H0 : Hp) (C : Addr) (cl : List (Str × Addr)) (fp : List Addr), wI (X.blk s H0 scope (compEnvC scope cl C X.env) fp) tg it σ H R
theorem bI_ok {scope : Scope} {s : Shared} {H : Hp} {C : Addr} {cl : List (Str × Addr)} {fp : List Addr} : PI (X.blk s H scope (compEnvC scope cl C X.env) fp) tg it (bI X scope tg it) := ⟨fun pins s0 _ _ _ I h => h s H C cl fp pins s0 I⟩
abbrev Lc2G (X : Cx) (c : Ct) (scope : Scope) (tg it tg1 it1 : Expr) (ifs1 : List Expr) (elt : Expr) (g g1 : TG) (vs vs1 : List Nat) (A : AS) (P : Nat → List PyData → Prop) (Q : List PyData → Prop) : Prop :=
  WI X c tg it A fun ds => ds.length ≤ 1000 ∧ P 0 [] ∧ (∀ i x acc, ds[i]? = some x → P i acc → ∃ A1, TgOk X c g vs ⟨wipeA A.ρ vs, A.μ⟩ x A1 ∧ ∀ (s : Shared) (H0 : Hp) (C : Addr) (cl : List (Str × Addr)) (fp : List Addr), WI (X.blk s H0 scope (compEnvC scope cl C X.env) fp) c tg1 it1 A1 fun ds1 =>
    ds1.length ≤ 1000 ∧ ∃ R : Nat → List PyData → Prop, R 0 acc ∧ (∀ k y acc, ds1[k]? = some y → R k acc → ∃ A2, TgOk X c g1 vs1 ⟨wipeA A1.ρ vs1, A1.μ⟩ y A2 ∧ Turn X c scope ifs1 elt A2 acc (R (k + 1))) ∧ ∀ acc, R ds1.length acc → P (i + 1) acc) ∧ ∀ acc, P ds.length acc → Q acc
theorem lc_read2 {scope : Scope} {elt tg1 it1 : Expr} {ifs1 : List Expr} {g g1 : TG} {vs vs1 : List Nat} {P : Nat → List PyData → Prop} {Q : List PyData → Prop} {G : Hp} {ps : List Addr} {σ : L2.St} {H : Hp} (h : Lc2G X c scope tg it tg1 it1 ifs1 elt g g1 vs vs1 A P Q) (S : St X.K c A G ps σ H) :
    tLc2 (wI X tg it) g tYes (bI X scope tg1 it1) g1 (bT X scope ifs1) (bE X scope elt) vs vs1 σ H (LcW X c G H Q) :=
  wI_mono (h G ps σ H S) fun J H1 ⟨G1, ds, s1, ok, hz, p0, ht, hd⟩ L hL => by
    have S1 := S.step s1
    have Sw := S1.wipe vs
    refine ⟨fun i m H' => m = ds.length - i ∧ i ≤ ds.length ∧ LcJ X.K c.pa G1 H1 G1 L (P i) (i * 1000) H', ⟨_, rfl, Nat.zero_le _, G1, [], [], S1.refl.lay hL, Ex.refl _, upd_same, Evl.fresh_back S1.st.sub hL, .nil, Nat.zero_le _, p0⟩, ?_⟩
    rintro i m H' ⟨rfl, hi, q⟩
    have exH : Ex G1 H' := by
      obtain ⟨G', _, _, s, _⟩ := q
      exact s.ex.trans s.sub
    by_cases hlt : i < ds.length
    · refine .inr ⟨ok.go i H' exH hlt, LcJ X.K c.pa G1 H1 G1 L (P (i + 1)) ((i + 1) * 1000), fun H2 q2 => ⟨ds.length - (i + 1), by omega, rfl, hlt, q2⟩, fun x H2 y => ?_⟩
      obtain ⟨e1, d, hdx, rd⟩ := ok.yld i H' x H2 exH hlt y
      subst e1
      obtain ⟨G', xs, acc, s, eb, hx, hg, ha, hl, hp⟩ := q
      obtain ⟨A1, tk, tn⟩ := ht i d acc hdx hp
      refine tk G1 ps _ H1 x Sw rd _ exH _ fun σ2 hw S2 => ⟨by rw [hw, wipe_idem], ?_⟩
      unfold tYes
      dsimp only
      rw [if_pos rfl]
      intro f1 f2 f3 f4 f5
      refine wI_mono (tn f1 f2 f3 f4 f5 G' ps σ2 _ (S2 G' _ s)) fun J1 H4 ⟨G4, ds1, s4, ok1, hz1, R, r0, rt, rd1⟩ => ?_
      have nL : c.pa ≠ some L := fun z => (s.pool L z).1 hL
      have Sb := (S2 G1 H1 S1.refl).wipe vs1
      refine ⟨fun j m H' => m = ds1.length - j ∧ j ≤ ds1.length ∧ LcJ X.K c.pa G1 H1 G4 L (R j) (i * 1000 + j) H', ⟨_, rfl, Nat.zero_le _, G4, xs, acc, s.trans s4, Ex.refl _, s4.keep L _ nL hx, s4.fr L (by rw [hx]; exact fun z => nomatch z) hg, dp_upAll s4.ex _ ha, hl, r0⟩, ?_⟩
      rintro j m H5 ⟨rfl, hj, q5⟩
      have ex5 : Ex G4 H5 := by
        obtain ⟨Gx, _, _, s5, eb5, _⟩ := q5
        exact eb5.trans s5.sub
      by_cases hjl : j < ds1.length
      · refine .inr ⟨ok1.go j H5 ex5 hjl, LcJ X.K c.pa G1 H1 G4 L (R (j + 1)) (i * 1000 + j + 1), fun H6 q6 => ⟨ds1.length - (j + 1), by omega, rfl, hjl, q6⟩, fun x1 H6 y1 => ?_⟩
        obtain ⟨e1, d1, hdy, rdy⟩ := ok1.yld j H5 x1 H6 ex5 hjl y1
        subst e1
        obtain ⟨Gx, xs5, acc5, s5, eb5, hx5, hg5, ha5, hl5, hp5⟩ := q5
        obtain ⟨A2, tk2, tn2⟩ := rt j d1 acc5 hdy hp5
        refine tk2 Gx ps _ _ x1 (Sb.step s5) (dp_up eb5 d1 rdy) _ s5.sub _ fun σ3 hw3 S3 => ⟨by rw [hw3, wipe_idem], ?_⟩
        exact turn_gen hL (by omega) s5 eb5 hx5 hg5 ha5 hl5 (S3 Gx _ s5.refl) tn2
      · have e : j = ds1.length := by omega
        subst e
        obtain ⟨Gx, xs5, acc5, s5, eb5, hx5, hg5, ha5, hl5, hp5⟩ := q5
        exact .inl ⟨ok1.stop _ H5 ex5 (Nat.le_refl _), Gx, xs5, acc5, s5, s5.ex, hx5, hg5, ha5, by omega, rd1 acc5 hp5⟩
    · have e : i = ds.length := by omega
      subst e
      exact .inl ⟨ok.stop _ H' exH (Nat.le_refl _), lcj_end s1 hL q hd⟩
/-! ### as expressions and as stores -/
variable {scope : Scope} {elt tg1 it1 : Expr} {ifs ifs1 : List Expr} {own : List (Str × Nat)} {g g1 : TG} {vs1 : List Nat} {P : Nat → List PyData → Prop} {Ql : List PyData → Prop}
theorem wl_lcG (ok : BlkOk X.N X.env.scope scope own) (hg : ∀ (s : Shared) (H : Hp) (C : Addr) (cl : List (Str × Addr)) (fp : List Addr), PG (X.blk s H scope (compEnvC scope cl C X.env) fp) tg g) (h : LcG X c scope tg it ifs elt g (own.map (·.2)) A P Ql) (nd : X.N.Nodup)
    (hc : X.calm = true := by rfl) (hs : ∀ x, foldedSetIterable it X.env x = pure x := by intro _; rfl) : WL X c (.ListComp elt [⟨tg, it, ifs, 0⟩] scope pos) A Ql := fun G ps σ H S =>
  wE_of (pe_lc hc nd pi_w ok hg (fun _ _ _ _ _ => bT_ok) (fun _ _ _ _ _ => bE_ok) hs) (lc_readG h S)
theorem ws_lcG {i : Nat} {y : Str} {py spos : Pos} (ok : BlkOk X.N X.env.scope scope own) (hg : ∀ (s : Shared) (H : Hp) (C : Addr) (cl : List (Str × Addr)) (fp : List Addr), PG (X.blk s H scope (compEnvC scope cl C X.env) fp) tg g) (h : LcG X c scope tg it ifs elt g (own.map (·.2)) A P fun ds => D.nx ⟨A.ρ.set i (.own A.μ.length), A.μ ++ [some ds]⟩) (nd : X.N.Nodup)
    (hy : X.N[i]? = some y := by rfl) (hyl : X.env.scope.names.lookup y = some .local := by rfl) (hsw : swapsWith (.ListComp elt [⟨tg, it, ifs, 0⟩] scope pos) (some (.Name y py)) spos.line X.env = pure true := by exact sw_true rfl rfl rfl (by decide +kernel)) (hc : X.calm = true := by rfl) (hs : ∀ x, foldedSetIterable it X.env x = pure x := by intro _; rfl) :
    WS X c (.Assign [.Name y py] (.ListComp elt [⟨tg, it, ifs, 0⟩] scope pos) spos) A D := fun G ps σ H S =>
  wS_of (ps_setLc hc nd hy hyl hsw pi_w ok hg (fun _ _ _ _ _ => bT_ok) (fun _ _ _ _ _ => bE_ok) hs) (tLc_mono (fun σ H R R' h k => wI_mono h k) (lc_readG h S) fun v H' q => setLc_end S q)
theorem tLc2_mono {wi wi1 : TI} {g g1 : TG} {tt tt1 : TT} {te : TE} {vs vs1 : List Nat} {σ : L2.St} {H : Hp} {Q Q' : VK} (hw : ∀ σ H (R R' : It → Hp → Prop), wi σ H R → (∀ J H', R J H' → R' J H') → wi σ H R') (h : tLc2 wi g tt wi1 g1 tt1 te vs vs1 σ H Q) (k : ∀ v H', Q v H' → Q' v H') : tLc2 wi g tt wi1 g1 tt1 te vs vs1 σ H Q' :=
  hw σ H _ _ h fun J H1 r D hD => by
    obtain ⟨W, w0, hW⟩ := r D hD
    refine ⟨W, w0, fun i m H' w => ?_⟩
    rcases hW i m H' w with ⟨z, q⟩ | z
    · exact .inl ⟨z, k _ _ q⟩
    · exact .inr z
theorem ws_lc2 {i : Nat} {y : Str} {py spos : Pos} (ok : BlkOk X.N X.env.scope scope own) (hv : ∀ i ∈ vs1, i ∈ own.map (·.2)) (hg : ∀ (s : Shared) (H : Hp) (C : Addr) (cl : List (Str × Addr)) (fp : List Addr), PG (X.blk s H scope (compEnvC scope cl C X.env) fp) tg g) (hg1 : ∀ (s : Shared) (H : Hp) (C : Addr) (cl : List (Str × Addr)) (fp : List Addr), PG (X.blk s H scope (compEnvC scope cl C X.env) fp) tg1 g1)
    (h : Lc2G X c scope tg it tg1 it1 ifs1 elt g g1 (own.map (·.2)) vs1 A P fun ds => D.nx ⟨A.ρ.set i (.own A.μ.length), A.μ ++ [some ds]⟩) (nd : X.N.Nodup)
    (hy : X.N[i]? = some y := by rfl) (hyl : X.env.scope.names.lookup y = some .local := by rfl) (hsw : swapsWith (.ListComp elt [⟨tg, it, [], 0⟩, ⟨tg1, it1, ifs1, 0⟩] scope pos) (some (.Name y py)) spos.line X.env = pure true := by exact sw_true rfl rfl rfl (by decide +kernel)) (hc : X.calm = true := by rfl) (hs : ∀ x, foldedSetIterable it X.env x = pure x := by intro _; rfl) (hs1 : ∀ env x, foldedSetIterable it1 env x = pure x := by intro _ _; rfl) :
    WS X c (.Assign [.Name y py] (.ListComp elt [⟨tg, it, [], 0⟩, ⟨tg1, it1, ifs1, 0⟩] scope pos) spos) A D := fun G ps σ H S =>
  wS_of (ps_setLc2 hc nd hy hyl hsw pi_w ok hv hg (fun _ _ _ _ _ => pts_nil) (fun _ _ _ _ _ => bI_ok) hg1 (fun _ _ _ _ _ => bT_ok) (fun _ _ _ _ _ => bE_ok) hs hs1) (tLc2_mono (fun σ H R R' h k => wI_mono h k) (lc_read2 h S) fun v H' q => setLc_end S q)

/-! ### a < b < c, in a tuple, pop -/
theorem wt_leLt {e1 e2 e3 : Expr} {Q : Bool → Prop} (h : WE X c e1 A fun d1 => ∃ i, d1 = .int i ∧ WE X c e2 A fun d2 => ∃ j, d2 = .int j ∧ (decide (i ≤ j) = true → WE X c e3 A fun d3 => ∃ k, d3 = .int k ∧ Q (decide (j < k))) ∧ (decide (i ≤ j) = false → Q false))
    (hm : lastMarks [.LtE, .Lt] [e2, e3] = false := by with_unfolding_all rfl) : WT X c (.Compare e1 [.LtE, .Lt] [e2, e3] pos) A Q := fun G ps σ H S =>
  wT_of (pt_chain op_le op_lt pe_w pe_w pe_w hm) (wE_mono (h G ps σ H S) fun v1 H1 ⟨G1, d1, s1, r1, i, e1, q1⟩ => by
    subst e1
    rw [dp_int r1]
    refine wE_mono (q1 G1 ps σ H1 (S.step s1)) fun v2 H2 ⟨G2, d2, s2, r2, j, e2, q2, q3⟩ => ?_
    subst e2
    rw [dp_int r2]
    refine ⟨i, j, rfl, rfl, decide (i ≤ j), rfl, ?_⟩
    cases hd : decide (i ≤ j) with
    | true =>
      rw [if_pos rfl]
      refine wE_mono (q2 hd G2 ps σ H2 ((S.step s1).step s2)) fun v3 H3 ⟨G3, d3, s3, r3, k, e3, q⟩ => ?_
      subst e3
      rw [dp_int r3]
      exact ⟨j, k, rfl, rfl, _, rfl, G3, (s1.trans s2).trans s3, q⟩
    | false =>
      rw [if_neg Bool.false_ne_true]
      exact ⟨false, rfl, G2, s1.trans s2, q3 hd⟩)
theorem od_in2 {i x y : Int} (q : Q (.bool (decide (i = x) || decide (i = y)))) : OpD X c (compareOp .In) (.int i) (.tuple [.int x, .int y]) Q :=
  ⟨_, op_in_seq, fun _ _ G H v1 v2 s h1 h2 => by
    obtain ⟨p, xs, rfl, hs, ha⟩ := dp_tup h2
    cases ha with
    | cons r1 t1 => cases t1 with
      | cons r2 t2 =>
        cases t2
        cases r1; cases r2
        rw [dp_int h1]
        refine ⟨p, _, rfl, .inr (Evl.ex_t s.sub hs), rfl, rfl, G, _, s.refl, .bl _, ?_⟩
        have e : inV (V.int i) [V.int x, V.int y] = (decide (i = x) || decide (i = y)) := by
          unfold inV
          rw [List.any_cons, List.any_cons, List.any_nil, Bool.or_false]
          show ((x == i) || (y == i)) = _
          rw [Bool.beq_eq_decide_eq, Bool.beq_eq_decide_eq, show decide (x = i) = decide (i = x) from decide_eq_decide.mpr eq_comm, show decide (y = i) = decide (i = y) from decide_eq_decide.mpr eq_comm]
        show Q (.bool (if false = true then !inV (V.int i) [V.int x, V.int y] else inV (V.int i) [V.int x, V.int y]))
        rw [if_neg Bool.false_ne_true, e]
        exact q⟩
/-- x.pop() of a list of one's own, the item dropped -/
theorem ws_pop {i k : Nat} {x : Str} {px apos cpos : Pos} {ds : List PyData} (hN : N[i]? = some x) (eN : X.N = N) (hρ : A.ρ[i]? = some (.own k)) (hm : A.μ[k]? = some (some ds)) (hz : 0 < ds.length) (hv : Vis X.env.scope x) (hd : ((x == ("__debug__" : Str)) = false) ∧ (x == ("__classdict__" : Str)) = false)
    (hbase : attributeBase (.Name x px) "pop" X.env (eval (.Name x px) X.env) = eval (.Name x px) X.env) (hline : (apos.endLine == cpos.line) = true)
    (hsw : swapsWith (.Call (.Attribute (.Name x px) "pop" apos) [] [] cpos) none pos.line X.env = pure false)
    (h : D.nx ⟨A.ρ, A.μ.set k (some ds.dropLast)⟩) : WS X c (.Expr (.Call (.Attribute (.Name x px) "pop" apos) [] [] cpos) pos) A D := fun G ps σ H S => by
  obtain ⟨p, hp, hsl⟩ := S.sl i _ hρ
  obtain ⟨g, xs, hx, ha⟩ := S.mu k p ds hp hm
  have hl := dall_len ha
  have drop : ∀ {vs : List V} {ds : List PyData}, DpAll X.K G vs ds → DpAll X.K G vs.dropLast ds.dropLast := fun {vs ds} h => by
    rw [List.dropLast_eq_take, List.dropLast_eq_take, dall_len h]
    exact dall_take _ h
  refine wS_of (ps_expr (pe_bm0 PySem.F.plainAttrs_list PySem.F.slot_list_pop PySem.F.type_list_pop mt_pop (pe_var (by rw [eN]; exact hN) hv hd.1 hd.2) hbase hline) hsw) ?_
  refine ⟨.ref p, hsl, .inl ⟨rfl, xs, .inl (.inl hx)⟩, p, xs, xs[xs.length - 1]'(by omega), rfl, rfl, hx, List.getElem?_eq_getElem _, ?_⟩
  exact ⟨_, G, ps, Ex.refl G, S.chg hp hm (drop ha), h⟩
end
end Eng

set_option Elab.async false
set_option linter.all false
set_option maxRecDepth 100000
set_option maxHeartbeats 2000000
namespace Eng
open PySem PySem.Spec PyProof.Rows L2
open Evl (Ex)
/-! ### displayed dicts, asked at once -/
def keyD : Key → PyData
  | .inl i => .int i
  | .inr z => .str z
def WPr (X : Cx) (c : Ct) : List (Option Expr) → List Expr → AS → (List (Key × PyData) → Prop) → Prop
  | some k :: ks, v :: vs, A, Q => WE X c k A fun dk => ∃ ky : Key, dk = keyD ky ∧ WE X c v A fun dv => WPr X c ks vs A fun ps => Q ((ky, dv) :: ps)
  | [], [], _, Q => Q []
  | _, _, _, _ => False
def trsOf (X : Cx) : List (Option Expr) → List Expr → List (TE × TE)
  | some k :: ks, v :: vs => (wE X k, wE X v) :: trsOf X ks vs
  | _, _ => []
inductive KvOk (K : PySem.W.Frag) (G : Hp) : List (Key × V) → List (Key × PyData) → Prop
  | nil : KvOk K G [] []
  | cons {k : Key} {v : V} {d : PyData} {kvs : List (Key × V)} {kds : List (Key × PyData)} : Dp K G v d → KvOk K G kvs kds → KvOk K G ((k, v) :: kvs) ((k, d) :: kds)
theorem KvOk.up {K : PySem.W.Frag} {G G' : Hp} (e : Ex G G') : ∀ {kvs : List (Key × V)} {kds : List (Key × PyData)}, KvOk K G kvs kds → KvOk K G' kvs kds
  | _, _, .nil => .nil
  | _, _, .cons r t => .cons (dp_up e _ r) (t.up e)
theorem KvOk.len {K : PySem.W.Frag} {G : Hp} : ∀ {kvs : List (Key × V)} {kds : List (Key × PyData)}, KvOk K G kvs kds → kvs.length = kds.length
  | _, _, .nil => rfl
  | _, _, .cons _ t => congrArg (· + 1) t.len
def getK (k : Key) (o : Option PyData) : List (Key × PyData) → Option PyData
  | [] => o
  | kd :: r => getK k (if k = kd.1 then some kd.2 else o) r
theorem merge_get {K : PySem.W.Frag} {G : Hp} (k : Key) : ∀ {kvs : List (Key × V)} {kds : List (Key × PyData)} (acc : List (Key × V)) (o : Option PyData), KvOk K G kvs kds → (∀ d, o = some d → ∃ v, valV acc k = some v ∧ Dp K G v d) → ∀ d, getK k o kds = some d → ∃ v, valV (mergeK acc kvs) k = some v ∧ Dp K G v d
  | _, _, acc, o, .nil, h, d, e => h d e
  | (k1, v1) :: kvs, (_, d1) :: kds, acc, o, .cons r t, h, d, e => by
    show ∃ v, valV (mergeK (putK acc k1 v1) kvs) k = some v ∧ Dp K G v d
    refine merge_get k (putK acc k1 v1) (if k = k1 then some d1 else o) t (fun d2 e2 => ?_) d e
    rw [valV_put]
    by_cases hk : k = k1
    · rw [if_pos hk] at e2 ⊢
      injection e2 with e2
      exact ⟨v1, rfl, e2 ▸ r⟩
    · rw [if_neg hk] at e2 ⊢
      exact h d2 e2
theorem kv_of {K : PySem.W.Frag} {G : Hp} {v : V} {k : Key} (r : Dp K G v (keyD k)) : v = kV k := by
  cases k with
  | inl i => exact dp_int r
  | inr z => cases r; rfl
section
variable {X : Cx} {c : Ct} {A : AS} {e a b i : Expr} {es : List Expr} {pos p p2 : Pos} {Q : PyData → Prop} {st : Stmt} {sts rest body : List Stmt} {D : ADs} {N : List Str}
theorem pps_of : ∀ (ks : List (Option Expr)) (vs : List Expr), ks.all (fun x => x.isSome) = true → ks.length = vs.length → PPs X pos ks vs (trsOf X ks vs)
  | [], [], _, _ => pps_nil
  | some k :: ks, v :: vs, h, hl => pps_cons pe_w pe_w (pps_of ks vs (by simpa using h) (Nat.succ.inj hl))
  | none :: _, _, h, _ => by simp at h
  | [], _ :: _, _, hl => by cases hl
  | some _ :: _, [], _, hl => by cases hl
theorem tpr_ok : ∀ (ks : List (Option Expr)) (vs : List Expr) (Q : List (Key × PyData) → Prop) (G : Hp) (ps : List Addr) (σ : L2.St) (H : Hp), St X.K c A G ps σ H → WPr X c ks vs A Q → ∀ k : List (V × V) → Hp → Prop,
    (∀ G' H' kvs kds, Stp X.K c.pa G H G' H' → KvOk X.K G' kvs kds → Q kds → k (kvs.map fun kv => (kV kv.1, kv.2)) H') → tPairs (trsOf X ks vs) σ H k
  | [], [], Q, G, ps, σ, H, S, h, k, hk => hk G H [] [] S.refl .nil h
  | some e :: ks, v :: vs, Q, G, ps, σ, H, S, h, k, hk => by
    refine wE_mono (h G ps σ H S) fun x H1 ⟨G1, d1, s1, r1, ky, e1, q1⟩ => ?_
    subst e1
    refine wE_mono (q1 G1 ps σ H1 (S.step s1)) fun y H2 ⟨G2, d2, s2, r2, q2⟩ => ?_
    refine tpr_ok ks vs _ G2 ps σ H2 ((S.step s1).step s2) q2 _ fun G' H' kvs kds s3 ok q => ?_
    have hx := kv_of r1
    subst hx
    exact hk G' H' ((ky, y) :: kvs) _ ((s1.trans s2).trans s3) (.cons (dp_up s3.ex _ r2) ok) q
  | none :: _, _, _, _, _, _, _, _, h, _, _ => by cases h
  | [], _ :: _, _, _, _, _, _, _, h, _, _ => by cases h
  | some _ :: _, [], _, _, _, _, _, _, h, _, _ => by cases h
/-- {..}[i] -/
theorem we_dix {ks : List (Option Expr)} {vs : List Expr} (hu : X.A.units + 1 < cLine) (h : WPr X c ks vs A fun kds => kds.length ≤ 15 ∧ WE X c i A fun d2 => ∃ k d, d2 = keyD k ∧ getK k none kds = some d ∧ Q d)
    (hall : ks.all (fun x => x.isSome) = true) (hl : ks.length = vs.length) (h0 : ks ≠ []) (h15 : ks.length ≤ 15) (hs : NoSl i) : WE X c (.Subscript (.Dict ks vs p2) i pos) A Q := fun G ps σ H S =>
  wE_of (pe_dget hu (pe_disp (pps_of ks vs hall hl) hall hl h0 h15) pe_w hs) fun P hP => by
    have s0 := S.refl.lay (o := .dK []) hP
    have nL : c.pa ≠ some P := fun z => (S.refl.pool P z).1 hP
    have gP : G P = none := Evl.fresh_back S.st.sub hP
    refine tpr_ok ks vs _ G ps σ _ (S.step s0) h _ fun G1 H1 kvs kds s1 ok ⟨hk, q⟩ => ?_
    have hP1 : H1 P = some (.dK []) := s1.keep P _ nL upd_same
    have gP1 : G1 P = none := s1.fr P (by rw [upd_same]; exact fun z => nomatch z) gP
    refine ⟨hP1, kvs, rfl, by rw [ok.len]; exact hk, ?_⟩
    have s2 := (s0.trans s1).mut (o := .dK (mergeK [] kvs)) hP gP1
    refine wE_mono (q G1 ps σ _ (S.step s2)) fun y H3 ⟨G3, d2, s3, r2, k, d, e2, eg, qq⟩ => ?_
    subst e2
    obtain ⟨v, ev, rv⟩ := merge_get k [] none (ok.up s3.ex) (fun d z => nomatch z) d eg
    exact ⟨P, v, rfl, .inl ⟨_, k, .inl (s3.keep P _ nL upd_same), kv_of r2, ev.symm⟩, G3, d, s2.trans s3, rv, qq⟩
end
end Eng

set_option Elab.async false
set_option linter.all false
set_option maxRecDepth 100000
set_option maxHeartbeats 2000000
namespace Eng
open PySem PySem.Spec PyProof.Rows L2
open Evl (Ex)
section
variable {X : Cx} {c : Ct} {A A0 A1 A2 : AS} {e a b n tg it : Expr} {es : List Expr} {pos p p2 : Pos} {Q : PyData → Prop} {st : Stmt} {sts rest body : List Stmt} {D : ADs} {N : List Str} {vs : List Nat}
/-! ### x.extend(e), both lists new -/
theorem ws_ext {i k : Nat} {x : Str} {px apos cpos : Pos} {ds : List PyData} (hN : N[i]? = some x) (eN : X.N = N) (hρ : A.ρ[i]? = some (.own k)) (hm : A.μ[k]? = some (some ds)) (hv : Vis X.env.scope x) (hd : ((x == ("__debug__" : Str)) = false) ∧ (x == ("__classdict__" : Str)) = false)
    (hbase : attributeBase (.Name x px) "extend" X.env (eval (.Name x px) X.env) = eval (.Name x px) X.env)
    (hfew : ((backTo cpos (starEach [e] X.env)).all (fun x => !x.1) && (backToKw cpos (keywordEach [] X.env)).all (fun x => x.1.isSome) && decide ([e].length + ([] : List Keyword).length + (if ([] : List Keyword).isEmpty then 0 else 1) < 30)) = true)
    (hline : (apos.endLine == cpos.line) = true) (hs : starEach [e] X.env = (false, eval e X.env) :: starEach [] X.env) (hplain : (backTo cpos (starEach [] X.env)).any (·.1) = false)
    (hsw : swapsWith (.Call (.Attribute (.Name x px) "extend" apos) [e] [] cpos) none pos.line X.env = pure false)
    (h : WL X c e A fun es => ds.length + es.length ≤ 100000 ∧ D.nx ⟨A.ρ, A.μ.set k (some (ds ++ es))⟩) :
    WS X c (.Expr (.Call (.Attribute (.Name x px) "extend" apos) [e] [] cpos) pos) A D := fun G ps σ H S => by
  obtain ⟨p, hp, hsl⟩ := S.sl i _ hρ
  obtain ⟨g, xs, hx, ha⟩ := S.mu k p ds hp hm
  refine wS_of (ps_expr (pe_bm PySem.F.plainAttrs_list PySem.F.slot_list_extend PySem.F.type_list_extend mt_extend (pe_var (by rw [eN]; exact hN) hv hd.1 hd.2) (pa_cons pe_w pa_nil hs) hbase hfew hline hs hplain) hsw) ?_
  refine ⟨.ref p, hsl, .inl ⟨rfl, xs, .inl (.inl hx)⟩, wE_mono (h G ps σ H S) fun v H1 ⟨G1, es, s1, ⟨b, zs, ev, _, _, hb, hz⟩, hl, q⟩ => ?_⟩
  subst ev
  have S1 := S.step s1
  obtain ⟨g1, ys, hy, hyd⟩ := S1.mu k p ds hp hm
  exact ⟨p, b, ys, zs, rfl, rfl, hy, hb, by rw [dall_len hyd, dall_len hz]; exact Evl.sz_of hl, _, G1, ps, s1.ex, S1.chg hp hm (dall_app hyd hz), q⟩
/-! ### list(range(n)) -/
theorem wl_lrg {Q : List PyData → Prop} {p3 : Pos} (hmr : X.mg "range" = none) (hml : X.mg "list" = none) (h : WE X c n A fun d => ∃ m : Nat, d = .int (m : Int) ∧ m ≤ 100000 ∧ Q (rngD m))
    (hc : X.calm = true := by rfl) (hgr : Gl X "range" := by rfl) (hgl : Gl X "list" := by rfl) (hst : starEach [n] X.env = (false, eval n X.env) :: starEach [] X.env := by rfl) (hst2 : starEach [.Call (.Name "range" p) [n] [] p2] X.env = (false, eval (.Call (.Name "range" p) [n] [] p2) X.env) :: starEach [] X.env := by rfl) :
    WL X c (.Call (.Name "list" p3) [.Call (.Name "range" p) [n] [] p2] [] pos) A Q := fun G ps σ H S =>
  wE_of (pe_listRg hc hgl hml (prg_1 hgr hmr pe_w hst) hst2) (wE_mono (h G ps σ H S) fun v H1 ⟨G1, d, s1, r1, m, e1, hm, q⟩ => by
    subst e1
    refine ⟨(m : Int), by rw [dp_int r1], ⟨by decide, by decide, by omega, by omega, by omega⟩, fun P hP => ?_⟩
    refine ⟨G1, _, s1.trans (s1.lay hP), ⟨P, _, rfl, ?_, Evl.fresh_back s1.sub hP, upd_same, ?_⟩, q⟩
    · cases q2 : H P with
      | none => rfl
      | some o => exact absurd hP (s1.live P (by rw [q2]; exact fun z => nomatch z))
    · have e : rgV 0 (m : Int) = (List.range m).map fun (k : Nat) => V.int (k : Int) := by
        unfold rgV
        rw [show ((m : Int) - 0).toNat = m by omega]
        exact List.map_congr_left fun k _ => by rw [Int.zero_add]
      rw [e]
      unfold rngD
      have go : ∀ l : List Nat, DpAll X.K G1 (l.map fun (k : Nat) => V.int (k : Int)) (l.map fun (k : Nat) => PyData.int (k : Int)) := fun l => by
        induction l with
        | nil => exact .nil
        | cons a t ih => exact .cons (.int _) ih
      exact go _)
/-! ### targets of several names -/
def TgsOk (X : Cx) (c : Ct) (gs : TGs) (vs : List Nat) (A0 : AS) (ds : List PyData) (A1 : AS) : Prop := ∀ G ps σ H xs, St X.K c A0 G ps σ H → DpAll X.K G xs ds → ∀ H', Ex G H' → ∀ k : L2.St → Hp → Prop, (∀ σ2, L2.wipe σ2 vs = L2.wipe σ vs → (∀ G2 H2, Stp X.K c.pa G H G2 H2 → St X.K c A1 G2 ps σ2 H2) → k σ2 H') → gs xs σ H' k
theorem tgs_nil : TgsOk X c gNil vs A [] A := fun G ps σ H xs S r H' e k h => by
  cases r
  exact ⟨rfl, h σ rfl fun G2 H2 s => S.step s⟩
theorem tgs_cons {g : TG} {gs : TGs} {d : PyData} {ds : List PyData} (h1 : TgOk X c g vs A0 d A1) (h2 : TgsOk X c gs vs A1 ds A2) : TgsOk X c (gCons g gs) vs A0 (d :: ds) A2 := fun G ps σ H xs S r H' e k h => by
  cases r with
  | cons r1 t1 =>
    refine ⟨_, _, rfl, h1 G ps σ H _ S r1 H' e _ fun σ2 hw S2 => ?_⟩
    exact h2 G ps σ2 H _ (S2 G H S.refl) t1 H' e _ fun σ3 hw3 S3 => h σ3 (hw3.trans hw) S3
theorem tg_tup {gs : TGs} {ds : List PyData} {m : Nat} (hl : ds.length = m) (h : TgsOk X c gs vs A0 ds A1) : TgOk X c (gTup X.K m gs) vs A0 (.tuple ds) A1 := fun G ps σ H v S r H' e k q => by
  obtain ⟨p, xs, rfl, hs, ha⟩ := dp_tup r
  exact ⟨p, xs, rfl, Evl.ex_t e hs, by rw [dall_len ha]; exact hl, h G ps σ H xs S ha H' e k q⟩
/-! ### enumerate -/
def enumD (ds : List PyData) : List PyData := ds.mapIdx fun (i : Nat) d => PyData.tuple [.int (i : Int), d]
theorem enumD_get {ds : List PyData} {i : Nat} {d : PyData} (h : ds[i]? = some d) : (enumD ds)[i]? = some (.tuple [.int (i : Int), d]) := by
  unfold enumD
  rw [List.getElem?_mapIdx, h]; rfl
theorem enumD_inv {ds : List PyData} {i : Nat} {x : PyData} (h : (enumD ds)[i]? = some x) : ∃ d, ds[i]? = some d ∧ x = .tuple [.int (i : Int), d] := by
  unfold enumD at h
  rw [List.getElem?_mapIdx] at h
  cases hd : ds[i]? with
  | none => rw [hd] at h; cases h
  | some d => rw [hd] at h; exact ⟨d, rfl, (Option.some.inj h).symm⟩
theorem enumD_len (ds : List PyData) : (enumD ds).length = ds.length := by unfold enumD; rw [List.length_mapIdx]
/-- walks whose items may be new -/
structure ItY (K : PySem.W.Frag) (pa : Option Addr) (J : It) (G : Hp) (ds : List PyData) : Prop where
  go : ∀ i H, Ex G H → i < ds.length → J.go i H
  stop : ∀ i H, Ex G H → ds.length ≤ i → J.stop i H
  yld : ∀ G0 H0 G1 i H x H', Ex G G1 → Stp K pa G0 H0 G1 H → i < ds.length → J.yld i H x H' → ∃ G2 d, Stp K pa G1 H G2 H' ∧ ds[i]? = some d ∧ Dp K G2 x d
theorem ity_enum {K : PySem.W.Frag} {pa : Option Addr} {G : Hp} {a : Addr} {xs : List V} {ds : List PyData} (h : SqL K G a xs) (ha : DpAll K G xs ds) : ItY K pa (Ite K a) G (enumD ds) where
  go := fun i H e l => by
    rw [enumD_len] at l
    exact ⟨xs, xs[i]'(by rw [dall_len ha]; exact l), Evl.ex_l e h, List.getElem?_eq_getElem _⟩
  stop := fun i H e l => by
    rw [enumD_len] at l
    exact ⟨xs, Evl.ex_l e h, by rw [dall_len ha]; exact l⟩
  yld := fun G0 H0 G1 i H x H' e s l y => by
    obtain ⟨T, x0, rfl, hT, rfl, hx⟩ := y
    obtain ⟨d, hd, r⟩ := dall_getV ha (hx xs (Evl.ex_l s.sub (Evl.ex_l e h)))
    have n := s.new (o := .tup [.int (i : Nat), x0]) hT
    exact ⟨_, _, n, enumD_get hd, .tup (.inl (.inl upd_same)) (.cons (.int _) (.cons (dp_up (fun b o z => n.ex b o (e b o z)) d r) .nil))⟩
def WIY (X : Cx) (c : Ct) (tg it : Expr) (A : AS) (Q : List PyData → Prop) : Prop := ∀ G ps σ H, St X.K c A G ps σ H → wI X tg it σ H fun J H' => ∃ G' ds, Stp X.K c.pa G H G' H' ∧ ItY X.K c.pa J G' ds ∧ Q ds
theorem wiy_enum {Q : List PyData → Prop} {elts : List Expr} {kk : Nat} {tpos : Pos} (hm : X.mg "enumerate" = none) (h : WE X c e A fun d => ∃ ds, d = .list ds ∧ Q (enumD ds)) (hg : Gl X "enumerate" := by rfl) (hst : starEach [e] X.env = (false, eval e X.env) :: starEach [] X.env := by rfl) (hst2 : starEach [e] X.env = [(false, eval e X.env)] := by rfl) :
    WIY X c (.Tuple elts kk tpos) (.Call (.Name "enumerate" p) [e] [] p2) A Q := fun G ps σ H S =>
  wI_of (pi_enum hg hm (pa_cons pe_w pa_nil hst) hst2) (wE_mono (h G ps σ H S) fun v H1 ⟨G1, d, s1, r1, ds, e1, q⟩ => by
    subst e1
    obtain ⟨p, xs, rfl, hx, ha⟩ := dp_list r1
    exact ⟨p, xs, rfl, Evl.ex_l s1.sub hx, G1, _, s1, ity_enum hx ha, q⟩)
abbrev LcY (X : Cx) (c : Ct) (scope : Scope) (tg it : Expr) (ifs : List Expr) (elt : Expr) (g : TG) (vs : List Nat) (A : AS) (P : Nat → List PyData → Prop) (Q : List PyData → Prop) : Prop :=
  WIY X c tg it A fun ds => ds.length ≤ 1000000 ∧ P 0 [] ∧ (∀ i x acc, ds[i]? = some x → P i acc → ∃ A1, TgOk X c g vs ⟨wipeA A.ρ vs, A.μ⟩ x A1 ∧ Turn X c scope ifs elt A1 acc (P (i + 1))) ∧ ∀ acc, P ds.length acc → Q acc
theorem lc_readY {scope : Scope} {elt : Expr} {ifs : List Expr} {g : TG} {P : Nat → List PyData → Prop} {Q : List PyData → Prop} {G : Hp} {ps : List Addr} {σ : L2.St} {H : Hp} (h : LcY X c scope tg it ifs elt g vs A P Q) (S : St X.K c A G ps σ H) :
    tLc (wI X tg it) g (bT X scope ifs) (bE X scope elt) vs σ H (LcW X c G H Q) :=
  wI_mono (h G ps σ H S) fun J H1 ⟨G1, ds, s1, ok, hz, p0, ht, hd⟩ L hL => by
    have S1 := S.step s1
    have Sw := S1.wipe vs
    refine ⟨fun i m H' => m = ds.length - i ∧ i ≤ ds.length ∧ LcJ X.K c.pa G1 H1 G1 L (P i) i H', ⟨_, rfl, Nat.zero_le _, G1, [], [], S1.refl.lay hL, Ex.refl _, upd_same, Evl.fresh_back S1.st.sub hL, .nil, Nat.zero_le _, p0⟩, ?_⟩
    rintro i m H' ⟨rfl, hi, q⟩
    have exH : Ex G1 H' := by
      obtain ⟨G', _, _, s, _⟩ := q
      exact s.ex.trans s.sub
    by_cases hlt : i < ds.length
    · refine .inr ⟨ok.go i H' exH hlt, LcJ X.K c.pa G1 H1 G1 L (P (i + 1)) (i + 1), fun H2 q2 => ⟨ds.length - (i + 1), by omega, rfl, hlt, q2⟩, fun x H2 y => ?_⟩
      obtain ⟨G', xs, acc, s, eb, hx, hg, ha, hl, hp⟩ := q
      obtain ⟨G2, d, s2, hdx, rd⟩ := ok.yld _ _ G' i H' x H2 eb s hlt y
      obtain ⟨A1, tk, tn⟩ := ht i d acc hdx hp
      have nL : c.pa ≠ some L := fun z => (s.pool L z).1 hL
      have s3 := s.trans s2
      refine tk G2 ps _ H2 x (Sw.step s3) rd _ s3.sub _ fun σ2 hw S2 => ⟨?_, ?_⟩
      · rw [hw, wipe_idem]
      · exact turn_gen hL (by omega) s3 (eb.trans s2.ex) (s2.keep L _ nL hx) (s2.fr L (by rw [hx]; exact fun z => nomatch z) hg) (dp_upAll s2.ex _ ha) hl (S2 G2 _ s3.refl) tn
    · have e : i = ds.length := by omega
      subst e
      exact .inl ⟨ok.stop _ H' exH (Nat.le_refl _), lcj_end s1 hL q hd⟩
variable {scope : Scope} {elt : Expr} {ifs : List Expr} {own : List (Str × Nat)} {g : TG} {P : Nat → List PyData → Prop} {Ql : List PyData → Prop}
theorem wl_lcY (ok : BlkOk X.N X.env.scope scope own) (hg : ∀ (s : Shared) (H : Hp) (C : Addr) (cl : List (Str × Addr)) (fp : List Addr), PG (X.blk s H scope (compEnvC scope cl C X.env) fp) tg g) (h : LcY X c scope tg it ifs elt g (own.map (·.2)) A P Ql) (nd : X.N.Nodup)
    (hc : X.calm = true := by rfl) (hs : ∀ x, foldedSetIterable it X.env x = pure x := by intro _; rfl) : WL X c (.ListComp elt [⟨tg, it, ifs, 0⟩] scope pos) A Ql := fun G ps σ H S =>
  wE_of (pe_lc hc nd pi_w ok hg (fun _ _ _ _ _ => bT_ok) (fun _ _ _ _ _ => bE_ok) hs) (lc_readY h S)
theorem ws_lcY {i : Nat} {y : Str} {py spos : Pos} (ok : BlkOk X.N X.env.scope scope own) (hg : ∀ (s : Shared) (H : Hp) (C : Addr) (cl : List (Str × Addr)) (fp : List Addr), PG (X.blk s H scope (compEnvC scope cl C X.env) fp) tg g) (h : LcY X c scope tg it ifs elt g (own.map (·.2)) A P fun ds => D.nx ⟨A.ρ.set i (.own A.μ.length), A.μ ++ [some ds]⟩) (nd : X.N.Nodup)
    (hy : X.N[i]? = some y := by rfl) (hyl : X.env.scope.names.lookup y = some .local := by rfl) (hsw : swapsWith (.ListComp elt [⟨tg, it, ifs, 0⟩] scope pos) (some (.Name y py)) spos.line X.env = pure true := by exact sw_true rfl rfl rfl (by decide +kernel)) (hc : X.calm = true := by rfl) (hs : ∀ x, foldedSetIterable it X.env x = pure x := by intro _; rfl) :
    WS X c (.Assign [.Name y py] (.ListComp elt [⟨tg, it, ifs, 0⟩] scope pos) spos) A D := fun G ps σ H S =>
  wS_of (ps_setLc hc nd hy hyl hsw pi_w ok hg (fun _ _ _ _ _ => bT_ok) (fun _ _ _ _ _ => bE_ok) hs) (tLc_mono (fun σ H R R' h k => wI_mono h k) (lc_readY h S) fun v H' q => setLc_end S q)
/-! ### slices of tuples -/
theorem we_slT {lo hi : Option Expr} {Q : PyData → Prop} (h : WE X c a A fun d => WO X c lo A fun l => WO X c hi A fun u => ∃ ds, d = .tuple ds ∧ ¬(HT.sIx ds.length 0 l = 0 ∧ HT.sIx ds.length ds.length u = ds.length) ∧ Q (.tuple (cutP ds l u))) : WE X c (.Subscript a (.Slice lo hi none p2) pos) A Q := fun G ps σ H S => by
  have po : ∀ e : Option Expr, ∃ t, PO X e t ∧ ∀ σ H Q, wO X e σ H Q → t σ H Q := fun e => by
    cases e with
    | none => exact ⟨_, po_none, fun _ _ _ h => h⟩
    | some x => exact ⟨_, po_some pe_w, fun _ _ _ h => h⟩
  obtain ⟨tl, hl, kl⟩ := po lo
  obtain ⟨th, hh, kh⟩ := po hi
  have go : ∀ (e : Option Expr) (P : Option Int → Prop) G σ H (S : St X.K c A G ps σ H), WO X c e A P → wO X e σ H fun o H' => ∃ G', Stp X.K c.pa G H G' H' ∧ P o := fun e P G σ H S w => by
    cases e with
    | none => exact ⟨G, S.refl, w⟩
    | some x => exact wE_mono (w G ps σ H S) fun v H' ⟨G', d, s, r, i, e1, q⟩ => by subst e1; exact ⟨i, dp_int r, G', s, q⟩
  have wOm : ∀ (e : Option Expr) σ H (Q Q' : Option Int → Hp → Prop), wO X e σ H Q → (∀ o H', Q o H' → Q' o H') → wO X e σ H Q' := fun e σ H Q Q' w k => by
    cases e with
    | none => exact k _ _ w
    | some x => exact wE_mono w fun v H' ⟨i, e1, q⟩ => ⟨i, e1, k _ _ q⟩
  refine wE_of (pe_slice sl_tup pe_w hl hh) (wE_mono (h G ps σ H S) fun v H1 ⟨G1, d, s1, r1, q1⟩ => ?_)
  have S1 := S.step s1
  refine kl _ _ _ (wOm _ _ _ _ _ (go lo _ G1 σ H1 S1 q1) fun l H2 ⟨G2, s2, q2⟩ => ?_)
  have S2 := S1.step s2
  refine kh _ _ _ (wOm _ _ _ _ _ (go hi _ G2 σ H2 S2 q2) fun u H3 ⟨G3, s3, ds, e1, hn, q⟩ => ?_)
  subst e1
  obtain ⟨p, xs, rfl, hs, ha⟩ := dp_tup r1
  have s23 := s2.trans s3
  have s13 := s1.trans s23
  refine ⟨p, xs, rfl, Evl.ex_t (fun b o z => s23.sub b o (s23.ex b o z)) hs, by rw [dall_len ha]; exact hn, fun q hq => ?_⟩
  have n := s13.new (o := .tup (cutV xs l u)) hq
  exact ⟨_, _, s13.trans n, .tup (.inl (.inl upd_same)) (dall_cut (dp_upAll (s23.ex.trans n.ex) _ ha)), ‹Q _›⟩
/-! ### a constant dict with texts for keys -/
structure Kd (K : PySem.W.Frag) (w : World) (mg : Str → Option Value) (x : Str) (get : Str → Option PyData) : Prop where
  ex : ∃ d, mg x = some (.ref d) ∧ ∀ z dz, get z = some dz → ∃ v, KDct K w d z v ∧ ∀ G, Dp K G v dz
theorem we_kd {K : PySem.W.Frag} {w : World} {mg : Str → Option Value} {x : Str} {get : Str → Option PyData} (g : Kd K w mg x get) (he : X.K = K ∧ X.mg = mg ∧ X.w = w) (hg : Gl X x) (hd : (x == ("__debug__" : Str)) = false) (h : WE X c b A fun d2 => ∃ z d, d2 = .str z ∧ get z = some d ∧ Q d) (hp : PlainIx b := by intro _ _; rfl) : WE X c (.Subscript (.Name x p) b pos) A Q := fun G ps σ H S => by
  obtain ⟨rfl, rfl, rfl⟩ := he
  obtain ⟨d, h1, h2⟩ := g.ex
  refine wE_of (pe_ix ix_kdict (pe_glob hg h1 (v := .ref d) rfl hd) pe_w hp) (wE_mono (h G ps σ H S) fun v2 H2 ⟨G2, d2, s2, r2, z, dz, e2, eg, q⟩ => ?_)
  subst e2
  obtain ⟨v, k, hv⟩ := h2 z dz eg
  exact ⟨d, z, v, rfl, dp_str r2, k, G2, dz, s2, hv G2, q⟩
end
end Eng

set_option Elab.async false
set_option linter.all false
set_option maxRecDepth 100000
set_option maxHeartbeats 2000000
namespace Eng
open PySem PySem.Spec PyProof.Rows L2
open Evl (Ex)
section
variable {X : Cx} {c : Ct} {A A0 A1 A2 : AS} {e a b n tg it : Expr} {es : List Expr} {pos p p2 : Pos} {Q : PyData → Prop} {st : Stmt} {sts rest body : List Stmt} {D : ADs} {N : List Str} {vs : List Nat}
/-! ### x in (..), any number of ints -/
theorem in_ints (i : Int) (ns : List Int) : inV (V.int i) (ns.map V.int) = decide (i ∈ ns) := by
  induction ns with
  | nil => exact (decide_eq_false (by simp)).symm
  | cons n ns ih =>
    have e : inV (V.int i) ((n :: ns).map V.int) = ((n == i) || inV (V.int i) (ns.map V.int)) := rfl
    rw [e, ih, Bool.beq_eq_decide_eq]
    by_cases h : i = n
    · subst h; simp
    · have h2 : ¬ n = i := fun z => h z.symm
      simp [h, h2]
theorem flat_ints (ns : List Int) : (ns.map V.int).all flatV = true := by
  induction ns with
  | nil => rfl
  | cons n ns ih => rw [List.map_cons, List.all_cons, ih]; rfl
theorem od_ninT {i : Int} {ns : List Int} (q : Q (.bool (!decide (i ∈ ns)))) : OpD X c (compareOp .NotIn) (.int i) (.tuple (ns.map .int)) Q :=
  ⟨_, op_notIn_seq, fun _ _ G H v1 v2 s h1 h2 => by
    obtain ⟨p, xs, rfl, hs, ha⟩ := dp_tup h2
    have ex := dall_ints_inv ha
    subst ex
    rw [dp_int h1]
    refine ⟨p, _, rfl, .inr (Evl.ex_t s.sub hs), rfl, flat_ints ns, G, _, s.refl, .bl _, ?_⟩
    rw [if_pos rfl, in_ints]
    exact q⟩
theorem od_inT {i : Int} {ns : List Int} (q : Q (.bool (decide (i ∈ ns)))) : OpD X c (compareOp .In) (.int i) (.tuple (ns.map .int)) Q :=
  ⟨_, op_in_seq, fun _ _ G H v1 v2 s h1 h2 => by
    obtain ⟨p, xs, rfl, hs, ha⟩ := dp_tup h2
    have ex := dall_ints_inv ha
    subst ex
    rw [dp_int h1]
    refine ⟨p, _, rfl, .inr (Evl.ex_t s.sub hs), rfl, flat_ints ns, G, _, s.refl, .bl _, ?_⟩
    rw [if_neg Bool.false_ne_true, in_ints]
    exact q⟩
/-! ### list * int, the list new -/
theorem dall_rep {K : PySem.W.Frag} {G : Hp} {xs : List V} {ds : List PyData} (h : DpAll K G xs ds) : ∀ m : Nat, DpAll K G (List.replicate m xs).flatten (List.replicate m ds).flatten
  | 0 => .nil
  | m + 1 => by
    rw [List.replicate_succ, List.replicate_succ, List.flatten_cons, List.flatten_cons]
    exact dall_app h (dall_rep h m)
theorem wl_rep {Q : List PyData → Prop} (h : WL X c e A fun ds => WE X c n A fun d => ∃ m : Nat, d = .int (m : Int) ∧ m ≤ 100000 ∧ ds.length * m ≤ 100000 ∧ Q (List.replicate m ds).flatten) : WL X c (.BinOp e .Mult n pos) A Q := fun G ps σ H S pins s I =>
  wpAny_BinOp (binT (R := fun v1 v2 H' => ∃ G' b xs ds, ∃ m : Nat, Stp X.K c.pa G H G' H' ∧ v1 = .ref b ∧ v2 = .int (m : Int) ∧ H' b = some (.lst xs) ∧ DpAll X.K G' xs ds ∧ m ≤ 100000 ∧ ds.length * m ≤ 100000 ∧ Q (List.replicate m ds).flatten) pe_w pe_w I
    (wE_mono (h G ps σ H S) fun v1 H1 ⟨G1, ds, s1, ⟨b, xs, ev, hb0, hbg, hb, hx⟩, q1⟩ => wE_mono (q1 G1 ps σ H1 (S.step s1)) fun v2 H2 ⟨G2, d2, s2, r2, m, e2, hm, hz, q⟩ => by
      subst e2
      have nL : c.pa ≠ some b := fun z => (s1.pool b z).1 hb0
      exact ⟨G2, b, xs, ds, m, s1.trans s2, ev, dp_int r2, s2.keep b _ nL hb, dp_upAll s2.ex _ hx, hm, hz, q⟩)
    fun v u s2 x y H2 I2 rx ry ⟨G2, b, xs, ds, m, st, z1, z2, hb, hx, hm, hz, q⟩ => by
      subst z1
      subst z2
      refine op_rep pins s2 σ H2 _ _ v u _ I2 rx ry ⟨b, _, xs, rfl, rfl, hb, by omega, by omega, Evl.sz_of (by rw [dall_len hx, Int.toNat_natCast]; exact hz), fun P hP => ?_⟩
      rw [Int.toNat_natCast]
      refine ⟨G2, _, st.trans (st.lay hP), ⟨P, _, rfl, ?_, Evl.fresh_back st.sub hP, upd_same, dall_rep hx m⟩, q⟩
      cases q2 : H P with
      | none => rfl
      | some o => exact absurd hP (st.live P (by rw [q2]; exact fun z => nomatch z)))
/-! ### a body told by itself -/
theorem wb_gen {P : AS → Prop} (h : ∀ D' : ADs, (∀ A', P A' → D'.nx A') → WB X c sts A D') (hp : ∀ A', P A' → D.nx A') : WB X c sts A D := h D hp
theorem wb_genR {P : AS → Prop} {R : RV → AS → Prop} (h : ∀ D' : ADs, (∀ A', P A' → D'.nx A') → (∀ r A', R r A' → D'.rt r A') → WB X c sts A D') (hp : ∀ A', P A' → D.nx A') (hr : ∀ r A', R r A' → D.rt r A') : WB X c sts A D := h D hp hr
theorem dp_ktup {K : PySem.W.Frag} {a : Addr} {od : Option Addr} {its : Array Value} {n : Nat} {sl : Array (Option Value)} {xs : List V} {ds : List PyData} (l : K.lookup a = some ⟨.type "tuple", od, .seq its n, sl⟩) (hz : its.size ≤ 1000) (hv : Vals xs its.toList) (hd : ∀ G, DpAll K G xs ds) : ∀ G, Dp K G (.ref a) (.tuple ds) := fun G =>
  .tup (.inr ⟨_, its, n, l, rfl, rfl, Evl.sz_of (by omega), hv⟩) (hd G)
theorem kd_of {K : PySem.W.Frag} {w : World} {mg : Str → Option Value} {x : Str} {a : Addr} {es : Array DictEntry} {n : Nat} {get : Str → Option PyData} (h : mg x = some (.ref a)) (l : K.lookup a = some ⟨.type "dict", none, .dict es n, #[]⟩) (k : PySem.W.KeysLit w.params es.toList) (hg : ∀ z dz, get z = some dz → ∃ u v, PySem.W.nsIn K a z = some (some u) ∧ RelV v u ∧ ∀ G, Dp K G v dz) : Kd K w mg x get :=
  ⟨a, h, fun z dz e => let ⟨u, v, h1, h2, h3⟩ := hg z dz e; ⟨v, ⟨es, n, u, l, k, h1, h2⟩, h3⟩⟩
end
end Eng

set_option Elab.async false
set_option linter.all false
set_option maxRecDepth 100000
set_option maxHeartbeats 2000000
namespace Eng
open PySem PySem.Spec PyProof.Rows L2
open Evl (Ex)
/-! ### displayed dicts with tuples for keys, asked at once by get -/
theorem disp_tup {prog : Program} {w : World} {A : Around} {E : Value → Shared → Prop} {s : Shared} {env : Env} {κ : Type} [DecidableEq κ] {kn : HeapKind prog w κ} {keys : List (Option Expr)} {values : List Expr} {pos : Pos} {Q : Value → Shared → Prop}
    (hu : kn.room A) (hall : keys.all (fun x => x.isSome) = true) (hl : keys.length = values.length) (h0 : keys ≠ []) (h15 : keys.length ≤ 15)
    (h : wpAny (model prog w) A (evalPairs (pairTrees keys values env pos)) (fun us s1 => ∃ rs, CarriesH kn s1.heap us rs ∧ s1.heap.DictOfH kn s.heap.objs.size [] ∧
      (∀ h' t', h'.DictOfH kn s.heap.objs.size (storedAllH [] rs) → Heap.SameBut s.heap.objs.size s1.heap h' → Q (.ref s.heap.objs.size) { s1 with heap := h', toks := t' })) E
      { s with heap := s.heap.push { cls := .type "dict", data := .dict #[] } }) : wpAny (model prog w) A (eval (.Dict keys values pos) env) Q E s := by
  have hn := pairTrees_length keys values env pos hall hl
  have hne : pairTrees keys values env pos ≠ [] := fun e => by
    rw [e] at hn
    exact h0 (List.length_eq_zero_iff.mp hn.symm)
  rw [arm_eval_Dict, zip_pairTrees keys values env pos hall hl, dictDisplay_pairs _ hne (by rw [hn]; omega)]
  refine wpAny_bind (wpAny_standAt (wpAny_bind ?_))
  refine wpAny_subDictH (knd := kn) (Q := fun d s' => wpAny (model prog w) A (pure (Value.ref d)) Q E s') hu (by rw [hn]; exact h15) ?_
  refine wpAny_mono h (fun us s1 z => ?_) fun _ _ e => e
  obtain ⟨rs, c1, c2, c3⟩ := z
  exact ⟨rs, c1, c2, fun h' t' a b => wpAny_pure (c3 h' t' a b)⟩
abbrev KB := List Key × Addr × V
def mergeT (acc : List (List Key × V)) (kbs : List KB) : List (List Key × V) := kbs.foldl (fun acc x => putK acc x.1 x.2.2) acc
theorem mergeT_len : ∀ (kbs : List KB) (acc : List (List Key × V)), (mergeT acc kbs).length ≤ acc.length + kbs.length
  | [], acc => Nat.le_refl _
  | x :: r, acc => by
    have h1 := mergeT_len r (putK acc x.1 x.2.2)
    have h2 := length_putK acc x.1 x.2.2
    show (mergeT (putK acc x.1 x.2.2) r).length ≤ _
    rw [List.length_cons]
    omega
abbrev KbOk : List KB → List (List Key × Addr × Value) → Prop := Paired fun p q => p.1 = q.1 ∧ p.2.1 = q.2.1 ∧ RelV p.2.2 q.2.2
theorem kb_carries {P : Program} {w : World} {H : Hp} {h : Heap} (ok : HOk P w H h) : ∀ {kbs : List KB} {ws : List (Value × Value)}, VV (kbs.map fun x => (V.ref x.2.1, x.2.2)) ws → (∀ x ∈ kbs, H x.2.1 = some (.tup (x.1.map kV))) →
    ∃ rs, CarriesH (tupleKind (mixKind P w)) h ws rs ∧ KbOk kbs rs
  | [], _, r, _ => by
    rw [List.map_nil] at r
    cases r
    exact ⟨[], True.intro, .nil⟩
  | x :: kbs, _, r, hk => by
    rw [List.map_cons] at r
    cases r with
    | @cons a b as bs h1 t =>
      obtain ⟨rs, c, q⟩ := kb_carries ok t fun y hy => hk y (List.mem_cons_of_mem _ hy)
      obtain ⟨b1, b2⟩ := b
      have e1 : b1 = Value.ref x.2.1 := h1.1
      exact ⟨(x.1, x.2.1, b2) :: rs, ⟨e1, rfl, key_of ok (hk x (List.mem_cons_self ..)), c⟩, .cons ⟨rfl, rfl, h1.2⟩ q⟩
theorem kt_merge {H : Hp} : ∀ {kbs : List KB} {rs : List (List Key × Addr × Value)} (acc : List (List Key × V)) (xs : List (List Key × Addr × Value)), KbOk kbs rs → (∀ x ∈ kbs, H x.2.1 = some (.tup (x.1.map kV))) → KT H acc xs → KT H (mergeT acc kbs) (storedAllH xs rs)
  | [], _, acc, xs, r, _, k => by cases r; exact k
  | x :: kbs, _, acc, xs, r, hk, k => by
    cases r with
    | @cons a b as bs h1 t =>
      obtain ⟨b1, b2, b3⟩ := b
      obtain ⟨e1, e2, e3⟩ := h1
      have e1 : x.1 = b1 := e1
      have e2 : x.2.1 = b2 := e2
      have e3 : RelV x.2.2 b3 := e3
      subst e1 e2
      exact kt_merge (putK acc x.1 x.2.2) (storedH xs x.1 x.2.1 b3) t (fun y hy => hk y (List.mem_cons_of_mem _ hy)) (KT.put k x.1 (hk x (List.mem_cons_self ..)) e3)
def tDispT (trs : List (TE × TE)) : TE := fun σ H Q => ∀ d, H d = none → tPairs trs σ (upd H d (.dT [])) fun prs H2 => H2 d = some (.dT []) ∧ ∃ kbs : List KB, prs = kbs.map (fun x => (V.ref x.2.1, x.2.2)) ∧ (∀ x ∈ kbs, H2 x.2.1 = some (.tup (x.1.map kV))) ∧ kbs.length ≤ 15 ∧ Q (.ref d) (upd H2 d (.dT (mergeT [] kbs)))
theorem pe_dispT {X : Cx} {pos : Pos} {keys : List (Option Expr)} {values : List Expr} {trs : List (TE × TE)} (hu : X.A.units + 1 < cLine) (h : PPs X pos keys values trs) (hall : keys.all (fun x => x.isSome) = true) (hl : keys.length = values.length) (h0 : keys ≠ [])
    (h15 : keys.length ≤ 15) : PE X (.Dict keys values pos) (tDispT trs) := by
  refine ⟨fun pins s σ H Q I q => ?_⟩
  have hn := I.hok.fresh (Nat.le_refl s.heap.objs.size)
  have I1 : Inv X pins σ (upd H s.heap.objs.size (.dT [])) { s with heap := s.heap.push { cls := .type "dict", data := .dict #[] } } :=
    I.laid (t' := s.toks) (fun _ _ z => Heap.get?_push_of_some _ z) (Nat.le_refl _) (dt_empty s.heap I.big)
  have hroom : (tupleKind (mixKind X.prog X.w)).room X.A := Nat.lt_of_succ_lt hu
  refine disp_tup (kn := tupleKind (mixKind X.prog X.w)) hroom hall hl h0 h15 ?_
  refine thn (h.run pins _ σ _ _ I1 (q _ hn)) fun us s2 z => ?_
  obtain ⟨prs, H2, I2, rel, e, kbs, ep, hk, lk, q2⟩ := z
  subst ep
  obtain ⟨rs, c, kb⟩ := kb_carries I2.hok rel hk
  obtain ⟨z1, z2, xs0, r0, dd⟩ := dt_of I2.hok e
  cases r0
  refine ⟨rs, c, dd, fun h' t' dd' hs => ⟨.ref s.heap.objs.size, _, ?_, rfl, q2⟩⟩
  have hz : (mergeT [] kbs).length ≤ sizeLine := by
    have h1 := mergeT_len kbs []
    rw [List.length_nil] at h1
    rw [sizeLine_eq]
    omega
  obtain ⟨o, es, en, d1, d2, d3, d4, _, d5⟩ := dd'
  refine d_write I2 (by rw [e]; exact True.intro) hs ⟨o, d1⟩ ⟨hz, z2, _, (kt_merge [] [] kb hk .nil).keeps fun b ys eb => ?_, o, es, en, d1, d2, d3, d4, d5⟩
  rw [upd_ne (ne_of eb e fun z => nomatch z)]
  exact eb
def WK (X : Cx) (c : Ct) (e : Expr) (A : AS) (Q : List Key → Prop) : Prop := ∀ G ps σ H, St X.K c A G ps σ H → wE X e σ H fun v H' => ∃ G' b ks, Stp X.K c.pa G H G' H' ∧ v = .ref b ∧ G' b = some (.tup (ks.map kV)) ∧ Q ks
theorem kvs_of {K : PySem.W.Frag} {G : Hp} : ∀ {vs : List V} {ks : List Key}, DpAll K G vs (ks.map keyD) → vs = ks.map kV
  | [], [], _ => rfl
  | [], _ :: _, h => by cases h
  | _ :: _, [], h => by cases h
  | v :: vs, k :: ks, h => by
    cases h with
    | cons h1 h2 => rw [kv_of h1, kvs_of h2]; rfl
def WPrT (X : Cx) (c : Ct) : List (Option Expr) → List Expr → AS → (List (List Key × PyData) → Prop) → Prop
  | some k :: ks, v :: vs, A, Q => WK X c k A fun ky => WE X c v A fun dv => WPrT X c ks vs A fun kds => Q ((ky, dv) :: kds)
  | [], [], _, Q => Q []
  | _, _, _, _ => False
inductive KbData (K : PySem.W.Frag) (G : Hp) : List KB → List (List Key × PyData) → Prop
  | nil : KbData K G [] []
  | cons {k : List Key} {b : Addr} {v : V} {d : PyData} {kbs : List KB} {kds : List (List Key × PyData)} : G b = some (.tup (k.map kV)) → Dp K G v d → KbData K G kbs kds → KbData K G ((k, b, v) :: kbs) ((k, d) :: kds)
theorem KbData.up {K : PySem.W.Frag} {G G' : Hp} (e : Ex G G') : ∀ {kbs : List KB} {kds : List (List Key × PyData)}, KbData K G kbs kds → KbData K G' kbs kds
  | _, _, .nil => .nil
  | _, _, .cons h r t => .cons (e _ _ h) (dp_up e _ r) (t.up e)
theorem KbData.len {K : PySem.W.Frag} {G : Hp} : ∀ {kbs : List KB} {kds : List (List Key × PyData)}, KbData K G kbs kds → kbs.length = kds.length
  | _, _, .nil => rfl
  | _, _, .cons _ _ t => congrArg (· + 1) t.len
theorem KbData.tups {K : PySem.W.Frag} {G : Hp} : ∀ {kbs : List KB} {kds : List (List Key × PyData)}, KbData K G kbs kds → ∀ x ∈ kbs, G x.2.1 = some (.tup (x.1.map kV))
  | _, _, .nil, _, hx => by cases hx
  | _, _, .cons h _ t, x, hx => by
    rcases List.mem_cons.mp hx with rfl | hx
    · exact h
    · exact t.tups x hx
def getT (k : List Key) (o : PyData) : List (List Key × PyData) → PyData
  | [] => o
  | kd :: r => getT k (if k = kd.1 then kd.2 else o) r
theorem merge_getT {K : PySem.W.Frag} {G : Hp} (k : List Key) {z : V} : ∀ {kbs : List KB} {kds : List (List Key × PyData)} (acc : List (List Key × V)) (o : PyData), KbData K G kbs kds → Dp K G ((valV acc k).getD z) o → Dp K G ((valV (mergeT acc kbs) k).getD z) (getT k o kds)
  | _, _, acc, o, .nil, h => h
  | (k1, b1, v1) :: kbs, (_, d1) :: kds, acc, o, .cons _ r t, h => by
    show Dp K G ((valV (mergeT (putK acc k1 v1) kbs) k).getD z) (getT k (if k = k1 then d1 else o) kds)
    refine merge_getT k (putK acc k1 v1) _ t ?_
    rw [valV_put]
    by_cases hk : k = k1
    · rw [if_pos hk, if_pos hk]; exact r
    · rw [if_neg hk, if_neg hk]; exact h
section
variable {X : Cx} {c : Ct} {A : AS} {e f a b i : Expr} {es : List Expr} {pos p p2 apos cpos : Pos} {Q : PyData → Prop} {st : Stmt} {sts rest body : List Stmt} {D : ADs} {N : List Str}
theorem wk_tup {x1} {Q : List Key → Prop} (h : WA X c es A fun as => ∃ ks : List Key, dats as = some (ks.map keyD) ∧ ks.length ≤ 15 ∧ Q ks) : WK X c (.Tuple es x1 pos) A Q := fun G ps σ H S =>
  wE_of (pe_tup pa_w) (wA_mono (h G ps σ H S) fun vs H1 ⟨G1, as, s1, r1, ks, e, hz, q⟩ => ⟨by rw [dall_len (dats_ok r1 e), List.length_map]; exact Evl.sz_of (by omega), fun p hp =>
    have n := s1.new (o := .tup vs) hp
    ⟨_, p, ks, s1.trans n, rfl, by rw [upd_same, kvs_of (dats_ok r1 e)], q⟩⟩)
theorem tprT_ok : ∀ (ks : List (Option Expr)) (vs : List Expr) (Q : List (List Key × PyData) → Prop) (G : Hp) (ps : List Addr) (σ : L2.St) (H : Hp), St X.K c A G ps σ H → WPrT X c ks vs A Q → ∀ k : List (V × V) → Hp → Prop,
    (∀ G' H' kbs kds, Stp X.K c.pa G H G' H' → KbData X.K G' kbs kds → Q kds → k (kbs.map fun x => (V.ref x.2.1, x.2.2)) H') → tPairs (trsOf X ks vs) σ H k
  | [], [], Q, G, ps, σ, H, S, h, k, hk => hk G H [] [] S.refl .nil h
  | some e :: ks, v :: vs, Q, G, ps, σ, H, S, h, k, hk => by
    refine wE_mono (h G ps σ H S) fun x H1 ⟨G1, b1, ky, s1, e1, t1, q1⟩ => ?_
    subst e1
    refine wE_mono (q1 G1 ps σ H1 (S.step s1)) fun y H2 ⟨G2, d2, s2, r2, q2⟩ => ?_
    refine tprT_ok ks vs _ G2 ps σ H2 ((S.step s1).step s2) q2 _ fun G' H' kbs kds s3 ok q => ?_
    exact hk G' H' ((ky, b1, y) :: kbs) _ ((s1.trans s2).trans s3) (.cons (s3.ex _ _ (s2.ex _ _ t1)) (dp_up s3.ex _ r2) ok) q
  | none :: _, _, _, _, _, _, _, _, h, _, _ => by cases h
  | [], _ :: _, _, _, _, _, _, _, h, _, _ => by cases h
  | some _ :: _, [], _, _, _, _, _, _, h, _, _ => by cases h
/-- {..}.get(e, f) -/
theorem we_tget {ks : List (Option Expr)} {vs : List Expr} (hu : X.A.units + 1 < cLine) (h : WPrT X c ks vs A fun kds => kds.length ≤ 15 ∧ WK X c e A fun k => WE X c f A fun d0 => Q (getT k d0 kds))
    (hall : ks.all (fun x => x.isSome) = true) (hl : ks.length = vs.length) (h0 : ks ≠ []) (h15 : ks.length ≤ 15) (m : M2 X (.Dict ks vs p2) "get" apos e f cpos) : WE X c (.Call (.Attribute (.Dict ks vs p2) "get" apos) [e, f] [] cpos) A Q := fun G ps σ H S =>
  wE_of (pe_dget2 hu (pe_dispT hu (pps_of ks vs hall hl) hall hl h0 h15) pe_w pe_w m) fun P hP => by
    have s0 := S.refl.lay (o := .dT []) hP
    have nL : c.pa ≠ some P := fun z => (S.refl.pool P z).1 hP
    have gP : G P = none := Evl.fresh_back S.st.sub hP
    refine tprT_ok ks vs _ G ps σ _ (S.step s0) h _ fun G1 H1 kbs kds s1 ok ⟨hk, q⟩ => ?_
    have hP1 : H1 P = some (.dT []) := s1.keep P _ nL upd_same
    have gP1 : G1 P = none := s1.fr P (by rw [upd_same]; exact fun z => nomatch z) gP
    refine ⟨hP1, kbs, rfl, fun x hx => s1.sub _ _ (ok.tups x hx), by rw [ok.len]; exact hk, ?_⟩
    have s2 := (s0.trans s1).mut (o := .dT (mergeT [] kbs)) hP gP1
    refine ⟨P, rfl, .inr ⟨_, .inl upd_same⟩, ?_⟩
    refine wE_mono (q G1 ps σ _ (S.step s2)) fun y H3 ⟨G3, b, k, s3, ey, tb, q3⟩ => ?_
    subst ey
    refine wE_mono (q3 G3 ps σ _ (S.step (s2.trans s3))) fun z H4 ⟨G4, d0, s4, r4, qq⟩ => ?_
    have hb : H4 b = some (.tup (k.map kV)) := s4.sub _ _ (s4.ex _ _ tb)
    have hd : H4 P = some (.dT (mergeT [] kbs)) := s4.keep P _ nL (s3.keep P _ nL upd_same)
    exact ⟨_, DGet.t hd hb, G4, _, (s2.trans s3).trans s4, merge_getT k [] d0 (ok.up fun a o z => s4.ex a o (s3.ex a o z)) r4, qq⟩
end
end Eng

set_option Elab.async false
set_option linter.all false
set_option maxRecDepth 100000
set_option maxHeartbeats 2000000
namespace Eng
open PySem PySem.Spec PyProof.Rows L2
open Evl (Ex)
section
variable {X : Cx} {c : Ct} {A A0 A1 A2 : AS} {e a b n tg it : Expr} {es : List Expr} {pos p p2 : Pos} {Q : PyData → Prop} {st : Stmt} {sts rest body : List Stmt} {D : ADs} {N : List Str} {vs : List Nat}
/-! ### walks, all kinds as walks whose items may be new -/
theorem ity_of {K : PySem.W.Frag} {pa : Option Addr} {J : It} {G : Hp} {ds : List PyData} (h : ItOk K J G ds) : ItY K pa J G ds where
  go := h.go
  stop := h.stop
  yld := fun G0 H0 G1 i H x H' e s l y => by
    obtain ⟨e1, d, hd, r⟩ := h.yld i H x H' (fun b o z => s.sub b o (e b o z)) l y
    subst e1
    exact ⟨G1, d, s.refl, hd, dp_up e d r⟩
theorem wiy_of {Q : List PyData → Prop} (h : WI X c tg it A Q) : WIY X c tg it A Q := fun G ps σ H S =>
  wI_mono (h G ps σ H S) fun J H' ⟨G', ds, s, ok, q⟩ => ⟨G', ds, s, ity_of ok, q⟩
/-- the numbers from lo on -/
def rngF (lo n : Nat) : List PyData := (List.range n).map fun (k : Nat) => PyData.int ((lo + k : Nat) : Int)
theorem rngF_get {lo n i : Nat} (h : i < n) : (rngF lo n)[i]? = some (.int ((lo + i : Nat) : Int)) := by
  unfold rngF
  rw [List.getElem?_map, List.getElem?_range h]; rfl
theorem rngF_len (lo n : Nat) : (rngF lo n).length = n := by unfold rngF; rw [List.length_map, List.length_range]
theorem rngF_inv {lo n i : Nat} {x : PyData} (h : (rngF lo n)[i]? = some x) : i < n ∧ x = .int ((lo + i : Nat) : Int) := by
  have hi : i < n := by
    have := (List.getElem?_eq_some_iff.mp h).1
    rw [rngF_len] at this
    exact this
  rw [rngF_get hi] at h
  exact ⟨hi, (Option.some.inj h).symm⟩
theorem itok_rngF {K : PySem.W.Frag} {G : Hp} (lo n : Nat) : ItOk K (Itr lo n) G (rngF lo n) where
  go := fun i H e l => by rw [rngF_len] at l; exact l
  stop := fun i H e l => by rw [rngF_len] at l; exact l
  yld := fun i H x H' e l y => ⟨y.1, .int ((lo + i : Nat) : Int), rngF_get (by rw [rngF_len] at l; exact l), by
    have e2 : x = .int ((lo : Int) + (i : Int)) := y.2
    rw [e2, ← Int.natCast_add]
    exact .int _⟩
theorem wi_rng2 {Q : List PyData → Prop} (hm : X.mg "range" = none) (h : WE X c a A fun d1 => ∃ lo : Nat, d1 = .int (lo : Int) ∧ lo ≤ 1000000 ∧ WE X c b A fun d2 => ∃ hi : Nat, d2 = .int (hi : Int) ∧ hi ≤ 1000000000000 ∧ Q (rngF lo (hi - lo))) (hg : Gl X "range" := by rfl)
    (hst : starEach [a, b] X.env = (false, eval a X.env) :: starEach [b] X.env := by rfl) (hst1 : starEach [b] X.env = (false, eval b X.env) :: starEach [] X.env := by rfl)
    (hst2 : starEach [a, b] X.env = [(false, eval a X.env), (false, eval b X.env)] := by rfl) (hst3 : starEach [b] X.env = [(false, eval b X.env)] := by rfl) :
    WI X c tg (.Call (.Name "range" p) [a, b] [] p2) A Q := fun G ps σ H S =>
  wI_of (pi_range2 hg hm (pa_cons pe_w (pa_cons pe_w pa_nil hst1) hst) hst2 hst3) (wE_mono (h G ps σ H S) fun v H1 ⟨G1, d, s1, r1, lo, e1, hlo, q1⟩ => by
    subst e1
    refine wE_mono (q1 G1 ps σ H1 (S.step s1)) fun v2 H2 ⟨G2, d2, s2, r2, hi, e2, hhi, q⟩ => ?_
    subst e2
    refine ⟨(lo : Int), (hi : Int), by rw [dp_int r1, dp_int r2], ⟨by omega, by omega, by omega, by omega⟩, G2, _, s1.trans s2, ?_, q⟩
    rw [show ((hi : Int) - (lo : Int)).toNat = hi - lo by omega]
    exact itok_rngF lo (hi - lo))
/-! ### zip of two lists -/
def zipD (ds es : List PyData) : List PyData := (ds.zip es).map fun p => PyData.tuple [p.1, p.2]
theorem zipD_len (ds es : List PyData) (h : ds.length = es.length) : (zipD ds es).length = ds.length := by unfold zipD; rw [List.length_map, List.length_zip, h, Nat.min_self]
theorem zipD_get {ds es : List PyData} {i : Nat} {d e : PyData} (h : ds[i]? = some d) (h2 : es[i]? = some e) : (zipD ds es)[i]? = some (.tuple [d, e]) := by
  unfold zipD
  rw [List.getElem?_map, show (ds.zip es)[i]? = some (d, e) from List.getElem?_zip_eq_some.mpr ⟨h, h2⟩]; rfl
theorem zipD_inv {ds es : List PyData} {i : Nat} {x : PyData} (h : (zipD ds es)[i]? = some x) : ∃ d e, ds[i]? = some d ∧ es[i]? = some e ∧ x = .tuple [d, e] := by
  unfold zipD at h
  rw [List.getElem?_map] at h
  cases hz : (ds.zip es)[i]? with
  | none => rw [hz] at h; cases h
  | some q =>
    rw [hz] at h
    obtain ⟨h1, h2⟩ := List.getElem?_zip_eq_some.mp (show (ds.zip es)[i]? = some (q.1, q.2) from hz)
    exact ⟨q.1, q.2, h1, h2, (Option.some.inj h).symm⟩
theorem ity_zip {K : PySem.W.Frag} {pa : Option Addr} {G : Hp} {a b : Addr} {xs ys : List V} {ds es : List PyData} (h : SqL K G a xs) (ha : DpAll K G xs ds) (h2 : SqL K G b ys) (hb : DpAll K G ys es) (hl : ds.length = es.length) : ItY K pa (Itz K a b) G (zipD ds es) where
  go := fun i H e l => by
    rw [zipD_len _ _ hl] at l
    exact ⟨xs, ys, xs[i]'(by rw [dall_len ha]; exact l), ys[i]'(by rw [dall_len hb, ← hl]; exact l), Evl.ex_l e h, Evl.ex_l e h2, List.getElem?_eq_getElem _, List.getElem?_eq_getElem _⟩
  stop := fun i H e l => by
    rw [zipD_len _ _ hl] at l
    exact ⟨xs, ys, Evl.ex_l e h, Evl.ex_l e h2, .inl (by rw [dall_len ha]; exact l)⟩
  yld := fun G0 H0 G1 i H x H' e s l y => by
    obtain ⟨T, x0, y0, rfl, hT, rfl, hx, hy⟩ := y
    obtain ⟨d, hd, r⟩ := dall_getV ha (hx xs (Evl.ex_l s.sub (Evl.ex_l e h)))
    obtain ⟨d2, hd2, r2⟩ := dall_getV hb (hy ys (Evl.ex_l s.sub (Evl.ex_l e h2)))
    have n := s.new (o := .tup [x0, y0]) hT
    have up : Ex G (upd G1 T (.tup [x0, y0])) := fun b o z => n.ex b o (e b o z)
    exact ⟨_, _, n, zipD_get hd hd2, .tup (.inl (.inl upd_same)) (.cons (dp_up up d r) (.cons (dp_up up d2 r2) .nil))⟩
theorem wiy_zip {Q : List PyData → Prop} {elts : List Expr} {kk : Nat} {tpos : Pos} (hm : X.mg "zip" = none) (h : WE X c a A fun d1 => WE X c b A fun d2 => ∃ ds es, d1 = .list ds ∧ d2 = .list es ∧ ds.length = es.length ∧ Q (zipD ds es)) (hg : Gl X "zip" := by rfl)
    (hst : starEach [a, b] X.env = (false, eval a X.env) :: starEach [b] X.env := by rfl) (hst1 : starEach [b] X.env = (false, eval b X.env) :: starEach [] X.env := by rfl) (hpl : (backTo p2 (starEach [b] X.env)).any (·.1) = false := by rfl) :
    WIY X c (.Tuple elts kk tpos) (.Call (.Name "zip" p) [a, b] [] p2) A Q := fun G ps σ H S =>
  wI_of (pi_zip hg hm (pa_cons pe_w (pa_cons pe_w pa_nil hst1) hst) hst hpl) (wE_mono (h G ps σ H S) fun v1 H1 ⟨G1, d1, s1, r1, q1⟩ => wE_mono (q1 G1 ps σ H1 (S.step s1)) fun v2 H2 ⟨G2, d2, s2, r2, ds, es, e1, e2, hl, q⟩ => by
    subst e1; subst e2
    obtain ⟨pa, xs, rfl, hx, ha⟩ := dp_list r1
    obtain ⟨pb, ys, rfl, hy, hb⟩ := dp_list r2
    have hx2 := Evl.ex_l s2.ex hx
    exact ⟨pa, pb, xs, ys, rfl, Evl.ex_l s2.sub hx2, Evl.ex_l s2.sub hy, G2, _, s1.trans s2, ity_zip hx2 (dp_upAll s2.ex _ ha) hy hb hl, q⟩)
/-! ### two clauses, over anything -/
abbrev Lc2Y (X : Cx) (c : Ct) (scope : Scope) (tg it tg1 it1 : Expr) (ifs1 : List Expr) (elt : Expr) (g g1 : TG) (vs vs1 : List Nat) (A : AS) (P : Nat → List PyData → Prop) (Q : List PyData → Prop) : Prop :=
  WIY X c tg it A fun ds => ds.length ≤ 1000 ∧ P 0 [] ∧ (∀ i x acc, ds[i]? = some x → P i acc → ∃ A1, TgOk X c g vs ⟨wipeA A.ρ vs, A.μ⟩ x A1 ∧ ∀ (s : Shared) (H0 : Hp) (C : Addr) (cl : List (Str × Addr)) (fp : List Addr), WIY (X.blk s H0 scope (compEnvC scope cl C X.env) fp) c tg1 it1 A1 fun ds1 =>
    ds1.length ≤ 1000 ∧ ∃ R : Nat → List PyData → Prop, R 0 acc ∧ (∀ k y acc, ds1[k]? = some y → R k acc → ∃ A2, TgOk X c g1 vs1 ⟨wipeA A1.ρ vs1, A1.μ⟩ y A2 ∧ Turn X c scope ifs1 elt A2 acc (R (k + 1))) ∧ ∀ acc, R ds1.length acc → P (i + 1) acc) ∧ ∀ acc, P ds.length acc → Q acc
def cutH (H : Hp) (L : Addr) : Hp := fun b => if b = L then none else H b
theorem cut_at {H : Hp} {L : Addr} : cutH H L L = none := if_pos rfl
theorem cut_ne {H : Hp} {L b : Addr} (h : b ≠ L) : cutH H L b = H b := if_neg h
theorem cut_some {H : Hp} {L b : Addr} {o : HO} (h : cutH H L b = some o) : b ≠ L ∧ H b = some o := by
  by_cases z : b = L
  · subst z; rw [cut_at] at h; cases h
  · rw [cut_ne z] at h; exact ⟨z, h⟩
theorem Stp.fromCut {K : PySem.W.Frag} {pa : Option Addr} {G H G2 H2 : Hp} {L : Addr} (s : Stp K pa G H G2 H2) (hp : pa ≠ some L) : Stp K pa G (cutH H L) G2 H2 where
  ex := s.ex
  fr := fun b hb g => s.fr b (fun z => hb (by by_cases y : b = L; · subst y; exact cut_at
                                              · rw [cut_ne y]; exact z)) g
  keep := fun b o hb q => s.keep b o hb (cut_some q).2
  sub := s.sub
  pool := fun a ha => by
    obtain ⟨z1, z2⟩ := s.pool a ha
    have ne : a ≠ L := fun z => hp (by rw [ha, z])
    exact ⟨by rw [cut_ne ne]; exact z1, z2⟩
theorem Stp.toCut {K : PySem.W.Frag} {pa : Option Addr} {G1 H1 G H : Hp} {L : Addr} (s : Stp K pa G1 H1 G H) (h1 : H1 L = none) (hg : G L = none) : Stp K pa G1 H1 G (cutH H L) where
  ex := s.ex
  fr := s.fr
  keep := fun b o hb q => by
    have ne : b ≠ L := fun z => by rw [z, h1] at q; cases q
    rw [cut_ne ne]; exact s.keep b o hb q
  sub := fun b o q => by
    have ne : b ≠ L := fun z => by rw [z, hg] at q; cases q
    rw [cut_ne ne]; exact s.sub b o q
  pool := fun a ha => by
    obtain ⟨z1, z2, z3⟩ := s.pool a ha
    have ne : a ≠ L := fun z => z1 (by rw [z]; exact h1)
    refine ⟨z1, z2, ?_⟩
    obtain ⟨l, ns, i, cc, d, s0, h1, h2, h3⟩ := z3
    exact ⟨l, ns, i, cc, d, s0, by rw [cut_ne ne]; exact h1, h2, h3⟩
theorem lc_read2Y {scope : Scope} {elt tg1 it1 : Expr} {ifs1 : List Expr} {g g1 : TG} {vs1 : List Nat} {P : Nat → List PyData → Prop} {Q : List PyData → Prop} {G : Hp} {ps : List Addr} {σ : L2.St} {H : Hp} (h : Lc2Y X c scope tg it tg1 it1 ifs1 elt g g1 vs vs1 A P Q) (S : St X.K c A G ps σ H) :
    tLc2 (wI X tg it) g tYes (bI X scope tg1 it1) g1 (bT X scope ifs1) (bE X scope elt) vs vs1 σ H (LcW X c G H Q) :=
  wI_mono (h G ps σ H S) fun J H1 ⟨G1, ds, s1, ok, hz, p0, ht, hd⟩ L hL => by
    have S1 := S.step s1
    have Sw := S1.wipe vs
    refine ⟨fun i m H' => m = ds.length - i ∧ i ≤ ds.length ∧ LcJ X.K c.pa G1 H1 G1 L (P i) (i * 1000) H', ⟨_, rfl, Nat.zero_le _, G1, [], [], S1.refl.lay hL, Ex.refl _, upd_same, Evl.fresh_back S1.st.sub hL, .nil, Nat.zero_le _, p0⟩, ?_⟩
    rintro i m H' ⟨rfl, hi, q⟩
    have exH : Ex G1 H' := by
      obtain ⟨G', _, _, s, _⟩ := q
      exact s.ex.trans s.sub
    by_cases hlt : i < ds.length
    · refine .inr ⟨ok.go i H' exH hlt, LcJ X.K c.pa G1 H1 G1 L (P (i + 1)) ((i + 1) * 1000), fun H2 q2 => ⟨ds.length - (i + 1), by omega, rfl, hlt, q2⟩, fun x H2 y => ?_⟩
      obtain ⟨G0, xs, acc, s0, eb, hx0, hg0, ha0, hl, hp⟩ := q
      obtain ⟨G', d, sy, hdx, rd⟩ := ok.yld _ _ G0 i H' x H2 eb s0 hlt y
      have nL : c.pa ≠ some L := fun z => (s0.pool L z).1 hL
      have s := s0.trans sy
      have hx : H2 L = some (.lst xs) := sy.keep L _ nL hx0
      have hg : G' L = none := sy.fr L (by rw [hx0]; exact fun z => nomatch z) hg0
      have ha := dp_upAll sy.ex _ ha0
      have eb' : Ex G1 G' := eb.trans sy.ex
      have sc := s.toCut hL hg
      have hLc : cutH H2 L L = none := cut_at
      have sc2 : Stp X.K c.pa G' (cutH H2 L) G' H2 := s.refl.fromCut nL
      obtain ⟨A1, tk, tn⟩ := ht i d acc hdx hp
      refine tk G' ps _ (cutH H2 L) x (Sw.step sc) rd _ s.sub _ fun σ2 hw S2 => ⟨by rw [hw, wipe_idem], ?_⟩
      unfold tYes
      dsimp only
      rw [if_pos rfl]
      intro f1 f2 f3 f4 f5
      refine wI_mono (tn f1 f2 f3 f4 f5 G' ps σ2 _ (S2 G' _ sc2)) fun J1 H4 ⟨G4, ds1, s4, ok1, hz1, R, r0, rt, rd1⟩ => ?_
      have s4c := s4.fromCut (L := L) nL
      refine ⟨fun j m H' => m = ds1.length - j ∧ j ≤ ds1.length ∧ LcJ X.K c.pa G' (cutH H2 L) G4 L (R j) (i * 1000 + j) H', ⟨_, rfl, Nat.zero_le _, G4, xs, acc, s4c, Ex.refl _, s4.keep L _ nL hx, s4.fr L (by rw [hx]; exact fun z => nomatch z) hg, dp_upAll s4.ex _ ha, hl, r0⟩, ?_⟩
      rintro j m H5 ⟨rfl, hj, q5⟩
      have ex5 : Ex G4 H5 := by
        obtain ⟨Gx, _, _, s5, eb5, _⟩ := q5
        exact eb5.trans s5.sub
      by_cases hjl : j < ds1.length
      · refine .inr ⟨ok1.go j H5 ex5 hjl, LcJ X.K c.pa G' (cutH H2 L) G4 L (R (j + 1)) (i * 1000 + j + 1), fun H6 q6 => ⟨ds1.length - (j + 1), by omega, rfl, hjl, q6⟩, fun x1 H6 y1 => ?_⟩
        obtain ⟨Gx, xs5, acc5, s5, eb5, hx5, hg5, ha5, hl5, hp5⟩ := q5
        obtain ⟨Gy, d1, sy1, hdy, rdy⟩ := ok1.yld _ _ Gx j H5 x1 H6 eb5 s5 hjl y1
        have s6 := s5.trans sy1
        obtain ⟨A2, tk2, tn2⟩ := rt j d1 acc5 hdy hp5
        refine tk2 Gy ps _ _ x1 ((S2 Gy H6 s6).wipe vs1) rdy _ s6.sub _ fun σ3 hw3 S3 => ⟨by rw [hw3, wipe_idem], ?_⟩
        exact turn_gen hLc (by omega) s6 (eb5.trans sy1.ex) (sy1.keep L _ nL hx5) (sy1.fr L (by rw [hx5]; exact fun z => nomatch z) hg5) (dp_upAll sy1.ex _ ha5) hl5 (S3 Gy _ s6.refl) tn2
      · have e : j = ds1.length := by omega
        subst e
        obtain ⟨Gx, xs5, acc5, s5, eb5, hx5, hg5, ha5, hl5, hp5⟩ := q5
        exact .inl ⟨ok1.stop _ H5 ex5 (Nat.le_refl _), Gx, xs5, acc5, sc.trans s5, eb'.trans s5.ex, hx5, hg5, ha5, by omega, rd1 acc5 hp5⟩
    · have e : i = ds.length := by omega
      subst e
      exact .inl ⟨ok.stop _ H' exH (Nat.le_refl _), lcj_end s1 hL q hd⟩
variable {scope : Scope} {elt tg1 it1 : Expr} {ifs ifs1 : List Expr} {own : List (Str × Nat)} {g g1 : TG} {vs1 : List Nat} {P : Nat → List PyData → Prop} {Ql : List PyData → Prop}
theorem ws_lc2Y {i : Nat} {y : Str} {py spos : Pos} (ok : BlkOk X.N X.env.scope scope own) (hv : ∀ i ∈ vs1, i ∈ own.map (·.2)) (hg : ∀ (s : Shared) (H : Hp) (C : Addr) (cl : List (Str × Addr)) (fp : List Addr), PG (X.blk s H scope (compEnvC scope cl C X.env) fp) tg g) (hg1 : ∀ (s : Shared) (H : Hp) (C : Addr) (cl : List (Str × Addr)) (fp : List Addr), PG (X.blk s H scope (compEnvC scope cl C X.env) fp) tg1 g1)
    (h : Lc2Y X c scope tg it tg1 it1 ifs1 elt g g1 (own.map (·.2)) vs1 A P fun ds => D.nx ⟨A.ρ.set i (.own A.μ.length), A.μ ++ [some ds]⟩) (nd : X.N.Nodup)
    (hy : X.N[i]? = some y := by rfl) (hyl : X.env.scope.names.lookup y = some .local := by rfl) (hsw : swapsWith (.ListComp elt [⟨tg, it, [], 0⟩, ⟨tg1, it1, ifs1, 0⟩] scope pos) (some (.Name y py)) spos.line X.env = pure true := by exact sw_true rfl rfl rfl (by decide +kernel)) (hc : X.calm = true := by rfl) (hs : ∀ x, foldedSetIterable it X.env x = pure x := by intro _; rfl) (hs1 : ∀ env x, foldedSetIterable it1 env x = pure x := by intro _ _; rfl) :
    WS X c (.Assign [.Name y py] (.ListComp elt [⟨tg, it, [], 0⟩, ⟨tg1, it1, ifs1, 0⟩] scope pos) spos) A D := fun G ps σ H S =>
  wS_of (ps_setLc2 hc nd hy hyl hsw pi_w ok hv hg (fun _ _ _ _ _ => pts_nil) (fun _ _ _ _ _ => bI_ok) hg1 (fun _ _ _ _ _ => bT_ok) (fun _ _ _ _ _ => bE_ok) hs hs1) (tLc2_mono (fun σ H R R' h k => wI_mono h k) (lc_read2Y h S) fun v H' q => setLc_end S q)
theorem wl_lc2Y (ok : BlkOk X.N X.env.scope scope own) (hv : ∀ i ∈ vs1, i ∈ own.map (·.2)) (hg : ∀ (s : Shared) (H : Hp) (C : Addr) (cl : List (Str × Addr)) (fp : List Addr), PG (X.blk s H scope (compEnvC scope cl C X.env) fp) tg g) (hg1 : ∀ (s : Shared) (H : Hp) (C : Addr) (cl : List (Str × Addr)) (fp : List Addr), PG (X.blk s H scope (compEnvC scope cl C X.env) fp) tg1 g1)
    (h : Lc2Y X c scope tg it tg1 it1 ifs1 elt g g1 (own.map (·.2)) vs1 A P Ql) (nd : X.N.Nodup) (hc : X.calm = true := by rfl) (hs : ∀ x, foldedSetIterable it X.env x = pure x := by intro _; rfl) (hs1 : ∀ env x, foldedSetIterable it1 env x = pure x := by intro _ _; rfl) :
    WL X c (.ListComp elt [⟨tg, it, [], 0⟩, ⟨tg1, it1, ifs1, 0⟩] scope pos) A Ql := fun G ps σ H S =>
  wE_of (pe_lc2 hc nd pi_w ok hv hg (fun _ _ _ _ _ => pts_nil) (fun _ _ _ _ _ => bI_ok) hg1 (fun _ _ _ _ _ => bT_ok) (fun _ _ _ _ _ => bE_ok) hs hs1) (lc_read2Y h S)
end
end Eng

set_option Elab.async false
set_option linter.all false
set_option maxRecDepth 100000
set_option maxHeartbeats 2000000
namespace Eng
open PySem PySem.Spec PyProof.Rows L2
open Evl (Ex)
section
variable {X : Cx} {c : Ct} {A A0 A1 A2 : AS} {e a b n tg it : Expr} {es : List Expr} {pos p p2 : Pos} {Q : PyData → Prop} {st : Stmt} {sts rest body : List Stmt} {D : ADs} {N : List Str} {vs : List Nat}
/-! ### own lists that are named no more are let go -/
def fgt (n : Nat) : SV → SV
  | .dat d => .dat d
  | .own k => if k < n then .own k else .any
  | .pool => .pool
  | .any => .any
theorem take_get {α : Type} {xs : List α} {n k : Nat} {x : α} (h : (xs.take n)[k]? = some x) : xs[k]? = some x := by
  rw [List.getElem?_take] at h
  split at h
  · exact h
  · cases h
theorem St.forget {K : PySem.W.Frag} {G : Hp} {ps : List Addr} {σ : L2.St} {H : Hp} (S : St K c A G ps σ H) (n : Nat) (hfx : c.fx = []) : St K c ⟨A.ρ.map (fgt n), A.μ.take n⟩ G (ps.take n) σ H where
  st := S.st
  len := by show σ.length = (A.ρ.map (fgt n)).length; rw [List.length_map]; exact S.len
  sl := fun i sv e => by
    have e' : (A.ρ.map (fgt n))[i]? = some sv := e
    rw [List.getElem?_map] at e'
    cases q : A.ρ[i]? with
    | none => rw [q] at e'; cases e'
    | some s0 =>
      rw [q] at e'
      have e2 : fgt n s0 = sv := Option.some.inj e'
      subst e2
      have old := S.sl i s0 q
      cases s0 with
      | dat d => exact old
      | pool => exact old
      | any => exact True.intro
      | own k =>
        obtain ⟨p, hp, hs⟩ := old
        show SlotOk K c.pa G (ps.take n) σ[i]? (if k < n then SV.own k else SV.any)
        by_cases hk : k < n
        · rw [if_pos hk]
          exact ⟨p, by rw [List.getElem?_take_of_lt hk]; exact hp, hs⟩
        · rw [if_neg hk]; exact True.intro
  mlen := by show (ps.take n).length = (A.μ.take n).length; exact (by rw [List.length_take, List.length_take, S.mlen])
  inj := fun i j p hi hj => S.inj i j p (take_get hi) (take_get hj)
  pre := fun i p hi => by rw [hfx] at hi; simp at hi
  new := fun p hp => S.new p (List.mem_of_mem_take hp)
  mu := fun k p ds hk hm => S.mu k p ds (take_get hk) (take_get hm)
theorem wb_forget (n : Nat) (hfx : c.fx = []) (h : WB X c sts ⟨A.ρ.map (fgt n), A.μ.take n⟩ D) : WB X c sts A D := fun G ps σ H S => h G (ps.take n) σ H (S.forget n hfx)
/-- the first own lists are named no more -/
def shf (n : Nat) : SV → SV
  | .dat d => .dat d
  | .own k => if k < n then .any else .own (k - n)
  | .pool => .pool
  | .any => .any
theorem St.shift {K : PySem.W.Frag} {G : Hp} {ps : List Addr} {σ : L2.St} {H : Hp} (S : St K c A G ps σ H) (n : Nat) (hfx : c.fx = []) : St K c ⟨A.ρ.map (shf n), A.μ.drop n⟩ G (ps.drop n) σ H where
  st := S.st
  len := by show σ.length = (A.ρ.map (shf n)).length; rw [List.length_map]; exact S.len
  sl := fun i sv e => by
    have e' : (A.ρ.map (shf n))[i]? = some sv := e
    rw [List.getElem?_map] at e'
    cases q : A.ρ[i]? with
    | none => rw [q] at e'; cases e'
    | some s0 =>
      rw [q] at e'
      have e2 : shf n s0 = sv := Option.some.inj e'
      subst e2
      have old := S.sl i s0 q
      cases s0 with
      | dat d => exact old
      | pool => exact old
      | any => exact True.intro
      | own k =>
        obtain ⟨p, hp, hs⟩ := old
        show SlotOk K c.pa G (ps.drop n) σ[i]? (if k < n then SV.any else SV.own (k - n))
        by_cases hk : k < n
        · rw [if_pos hk]; exact True.intro
        · rw [if_neg hk]
          exact ⟨p, by rw [List.getElem?_drop, show n + (k - n) = k by omega]; exact hp, hs⟩
  mlen := by show (ps.drop n).length = (A.μ.drop n).length; exact (by rw [List.length_drop, List.length_drop, S.mlen])
  inj := fun i j p hi hj => by
    rw [List.getElem?_drop] at hi hj
    have := S.inj _ _ p hi hj
    omega
  pre := fun i p hi => by rw [hfx] at hi; simp at hi
  new := fun p hp => S.new p (List.mem_of_mem_drop hp)
  mu := fun k p ds hk hm => S.mu (n + k) p ds (by rw [List.getElem?_drop] at hk; exact hk) (by
    have hm' : (A.μ.drop n)[k]? = some (some ds) := hm
    rw [List.getElem?_drop] at hm'
    exact hm')
theorem wb_shift (n : Nat) (hfx : c.fx = []) (h : WB X c sts ⟨A.ρ.map (shf n), A.μ.drop n⟩ D) : WB X c sts A D := fun G ps σ H S => h G (ps.drop n) σ H (S.shift n hfx)
/-! ### built-ins -/
theorem cd_min2 {i j : Int} (hc : X.calm = true) (q : Q (.int (if j < i then j else i))) : CalD X c (.builtin "min") [.int i, .int j] Q := ⟨_, call_min2 hc, fun _ _ G H vs s h => by
  cases h with
  | cons h1 h2 => cases h2 with
    | cons h2 h3 =>
      cases h3
      cases h1; cases h2
      exact ⟨i, j, rfl, G, _, s.refl, .int _, q⟩⟩
theorem cd_max2 {i j : Int} (hc : X.calm = true) (q : Q (.int (if j > i then j else i))) : CalD X c (.builtin "max") [.int i, .int j] Q := ⟨_, call_max2 hc, fun _ _ G H vs s h => by
  cases h with
  | cons h1 h2 => cases h2 with
    | cons h2 h3 =>
      cases h3
      cases h1; cases h2
      exact ⟨i, j, rfl, G, _, s.refl, .int _, q⟩⟩
theorem cd_abs {i : Int} (q : Q (.int (if i < 0 then -i else i))) : CalD X c (.builtin "abs") [.int i] Q := ⟨_, call_abs, fun _ _ G H vs s h => by
  cases h with
  | cons h1 h2 =>
    cases h2
    cases h1
    exact ⟨i, rfl, G, _, s.refl, .int _, q⟩⟩
theorem cd_sum {ns : List Int} (hc : X.calm = true) (q : Q (.int ns.sum)) : CalD X c (.builtin "sum") [.list (ns.map .int)] Q := ⟨_, cr_sum hc, fun _ _ G H vs s h => by
  cases h with
  | cons h1 h2 =>
    cases h2
    obtain ⟨p, xs, rfl, hs, ha⟩ := dp_list h1
    have ex := dall_ints_inv ha
    subst ex
    exact ⟨p, ns, rfl, Evl.ex_l s.sub hs, G, _, s.refl, .int _, q⟩⟩
theorem wl_blt {id : String} {x : Str} {Q : List PyData → Prop} (hm : X.mg x = none) (h : WA X c (e :: es) A fun as => ∃ ds, dats as = some ds ∧ CalL X c (.builtin id) ds Q) (hv : bootBuiltins x = some (.builtin id) := by decide +kernel) (hg : Gl X x := by rfl)
    (hn : x ≠ "__name__" := by decide) (hdb : (x == ("__debug__" : Str)) = false := by decide) (he : starEach (e :: es) X.env = (false, eval e X.env) :: starEach es X.env := by rfl) (hpl : (backTo pos (starEach es X.env)).any (·.1) = false := by rfl) :
    WL X c (.Call (.Name x p) (e :: es) [] pos) A Q := fun G ps σ H S =>
  wE_of (pe_callB cW_ok hg hm hv pa_w hn hdb he hpl) (wA_mono (h G ps σ H S) fun vs H1 ⟨G1, as, s1, r1, ds, ed, r, hr, q⟩ => fun pins s σ us I rv =>
    thn (hr pins s σ H1 vs us _ I rv (q G H G1 H1 vs s1 (dats_ok r1 ed))) fun _ _ ⟨v', H', I', r', G', d, st', dd, qq⟩ => ⟨v', H', I', r', G', d, s1.trans st', dd.back s1.live, qq⟩)
theorem cl_sorted {ns : List Int} {Q : List PyData → Prop} (q : ∀ ns' : List Int, ns'.Perm ns → ns'.Pairwise (· ≤ ·) → Q (ns'.map .int)) : CalL X c (.builtin "sorted") [.list (ns.map .int)] Q := ⟨_, cr_sortedI, fun _ _ G H vs s h => by
  cases h with
  | cons h1 h2 =>
    cases h2
    obtain ⟨p, xs, rfl, hs, ha⟩ := dp_list h1
    have ex := dall_ints_inv ha
    subst ex
    exact ⟨p, ns, rfl, Evl.ex_l s.sub hs, fun ns' l h1 h2 hl => ⟨G, _, s.lay hl, ⟨l, _, rfl, hl, Evl.fresh_back s.sub hl, upd_same, dall_ints⟩, q ns' h1 h2⟩⟩⟩
/-- sorted(e, reverse=True), ints -/
theorem wl_sortR {k : Nat} {kp kpos : Pos} {Q : List PyData → Prop} (hm : X.mg "sorted" = none) (h : WE X c e A fun d => ∃ ns : List Int, d = .list (ns.map .int) ∧ ∀ ns' : List Int, ns'.Perm ns → ns'.Pairwise (· ≥ ·) → Q (ns'.map .int)) (hg : Gl X "sorted" := by rfl)
    (hst : starEach [e] X.env = (false, eval e X.env) :: starEach [] X.env := by rfl) (he : backTo pos (starEach (e :: []) X.env) = (false, eval e X.env) :: backTo pos (starEach [] X.env) := by rfl) (hpl : (backTo pos (starEach (e :: []) X.env)).any (·.1) = false := by rfl)
    (hks : (backToKw pos (keywordEach [⟨some "reverse", .Constant (.bool true) k kp, kpos⟩] X.env)).filterMap (·.1) = [Str.ofString "reverse"] := by rfl) :
    WL X c (.Call (.Name "sorted" p) [e] [⟨some "reverse", .Constant (.bool true) k kp, kpos⟩] pos) A Q := fun G ps σ H S =>
  wE_of (pe_callBK (cr_sortedRev (b := true)) hg hm boot_sorted (pa_cons pe_w pa_nil hst) (pk_cons pe_bl pk_nil) (by decide) (by decide) he hpl rfl rfl hks) (wE_mono (h G ps σ H S) fun v H1 ⟨G1, d, s1, r1, ns, e1, q⟩ => by
    subst e1
    obtain ⟨p, xs, rfl, hs, ha⟩ := dp_list r1
    have ex := dall_ints_inv ha
    subst ex
    refine ⟨p, ns, rfl, rfl, Evl.ex_l s1.sub hs, fun ns' l z1 z2 hl => ?_⟩
    refine ⟨G1, _, s1.trans (s1.lay hl), ⟨l, _, rfl, ?_, Evl.fresh_back s1.sub hl, upd_same, dall_ints⟩, q ns' z1 z2⟩
    cases q2 : H l with
    | none => rfl
    | some o => exact absurd hl (s1.live l (by rw [q2]; exact fun z => nomatch z)))
/-! ### x + e, x a list of one's own, e a new list -/
theorem wl_catO {i k : Nat} {x : Str} {px : Pos} {ds : List PyData} {Q : List PyData → Prop} (hN : N[i]? = some x) (eN : X.N = N) (hρ : A.ρ[i]? = some (.own k)) (hm : A.μ[k]? = some (some ds)) (hv : Vis X.env.scope x) (hd : ((x == ("__debug__" : Str)) = false) ∧ (x == ("__classdict__" : Str)) = false)
    (h : WL X c e A fun es => ds.length + es.length ≤ 100000 ∧ Q (ds ++ es)) : WL X c (.BinOp (.Name x px) .Add e pos) A Q := fun G ps σ H S pins s I => by
  obtain ⟨p, hp, hsl⟩ := S.sl i _ hρ
  refine wpAny_BinOp (binT (R := fun v1 v2 H' => ∃ G' b xs zs es, Stp X.K c.pa G H G' H' ∧ v1 = .ref p ∧ v2 = .ref b ∧ H' p = some (.lst xs) ∧ H' b = some (.lst zs) ∧ DpAll X.K G' xs ds ∧ DpAll X.K G' zs es ∧ ds.length + es.length ≤ 100000 ∧ Q (ds ++ es)) (pe_var (by rw [eN]; exact hN) hv hd.1 hd.2) pe_w I
    ⟨.ref p, hsl, wE_mono (h G ps σ H S) fun v2 H2 ⟨G2, es, s2, ⟨b, zs, ev, hb0, hbg, hb, hz⟩, hl, q⟩ => by
      subst ev
      obtain ⟨g1, ys, hy, hyd⟩ := (S.step s2).mu k p ds hp hm
      exact ⟨G2, b, ys, zs, es, s2, rfl, rfl, hy, hb, hyd, hz, hl, q⟩⟩
    fun v u s2 x y H2 I2 rx ry ⟨G2, b, xs, zs, es, st, z1, z2, hx, hb, dx, dz, hl, q⟩ => ?_)
  subst z1
  subst z2
  refine op_cat pins s2 σ H2 _ _ v u _ I2 rx ry ⟨p, b, xs, zs, rfl, rfl, hx, hb, by rw [dall_len dx, dall_len dz]; exact Evl.sz_of hl, fun P hP => ?_⟩
  refine ⟨G2, _, st.trans (st.lay hP), ⟨P, _, rfl, ?_, Evl.fresh_back st.sub hP, upd_same, dall_app dx dz⟩, q⟩
  cases q2 : H P with
  | none => rfl
  | some o => exact absurd hP (st.live P (by rw [q2]; exact fun z => nomatch z))
/-! ### data that are compared: of one shape -/
def Shp (n : Nat) (d : PyData) : Prop := d.canLay0 = true ∧ d.depth ≤ n
theorem shp_int (n : Nat) (i : Int) : Shp n (.int i) := ⟨by simp only [PyData.canLay0], by simp only [PyData.depth]; omega⟩
theorem shp_boo (n : Nat) (i : Bool) : Shp n (.bool i) := ⟨by simp only [PyData.canLay0], by simp only [PyData.depth]; omega⟩
theorem shp_all {n : Nat} : ∀ {ds : List PyData}, (∀ d ∈ ds, Shp n d) → PyData.canLayAll0 ds = true ∧ PyData.depthAll ds ≤ n
  | [], _ => ⟨by simp only [PyData.canLayAll0], by simp only [PyData.depthAll]; omega⟩
  | d :: ds, h => by
    obtain ⟨h1, h2⟩ := shp_all (ds := ds) fun x hx => h x (List.mem_cons_of_mem _ hx)
    obtain ⟨h3, h4⟩ := h d (List.mem_cons_self ..)
    exact ⟨by simp only [PyData.canLayAll0, h1, h3, Bool.and_self], by simp only [PyData.depthAll]; omega⟩
theorem shp_list {n : Nat} {ds : List PyData} (h : ∀ d ∈ ds, Shp n d) : Shp (n + 1) (.list ds) := by
  obtain ⟨h1, h2⟩ := shp_all h
  exact ⟨by simp only [PyData.canLay0]; exact h1, by simp only [PyData.depth]; omega⟩
theorem shp_tup {n : Nat} {ds : List PyData} (h : ∀ d ∈ ds, Shp n d) : Shp (n + 1) (.tuple ds) := by
  obtain ⟨h1, h2⟩ := shp_all h
  exact ⟨by simp only [PyData.canLay0]; exact h1, by simp only [PyData.depth]; omega⟩
theorem shp_ints (ns : List Int) : Shp 1 (.list (ns.map .int)) := shp_list fun d hd => by
  obtain ⟨i, _, rfl⟩ := List.mem_map.mp hd
  exact shp_int 0 i
theorem Shp.shaped {n : Nat} {d : PyData} (h : Shp n d) (hn : n ≤ 64) : SeqAt.shaped d = true := by
  unfold SeqAt.shaped
  rw [h.1, Bool.true_and]
  exact decide_eq_true (Nat.le_trans h.2 hn)
theorem od_eqS' {n : Nat} {d : PyData} (hu : X.A.units + 64 < cLine) (h : Shp n d) (hn : n ≤ 64) (q : Q (.bool true)) : OpD X c (compareOp .Eq) d d Q :=
  od_eqD hu (h.shaped hn) (h.shaped hn) (by rw [SeqAt.eqv_refl _ h.1]; exact q)
theorem od_neD {d1 d2 : PyData} (hu : X.A.units + 64 < cLine) (s1 : SeqAt.shaped d1 = true) (s2 : SeqAt.shaped d2 = true) (q : Q (.bool (!PyData.eqv d1 d2))) : OpD X c (compareOp .NotEq) d1 d2 Q :=
  ⟨_, op_neD hu, fun _ _ G H v1 v2 s h1 h2 => ⟨d1, d2, dp_up s.sub d1 h1, dp_up s.sub d2 h2, s1, s2, G, _, s.refl, .bl _, q⟩⟩
theorem od_neS' {n : Nat} {d : PyData} (hu : X.A.units + 64 < cLine) (h : Shp n d) (hn : n ≤ 64) (q : Q (.bool false)) : OpD X c (compareOp .NotEq) d d Q :=
  od_neD hu (h.shaped hn) (h.shaped hn) (by rw [SeqAt.eqv_refl _ h.1]; exact q)
end
/-! ### a def by data, its fixed lists none -/
theorem def_okF {P : Program} {w : World} {K : PySem.W.Frag} {mg : Str → Option Value} {base : Heap} {x qual : Str} {st : Stmt} {f : Addr} {fd : FuncData} {N ps : List Str} {k n : Nat} {sp : DSpec} (F : Fun K x qual st f fd) (S : FnScope N ps (defScope st)) (hn : n = ps.length)
    (body : ∀ (cdv : Value) (A : Around) (outer : List Env) (s : Shared) (H : Hp) (E : XK) (c : Ct) (as : List AV) (R : RV → Prop), c.fx = [] → Room k (A.deeper (envOfC qual (defScope st) s.heap.objs.size f cdv)) → as.length = n → sp as R →
      WB (cxOf CX0 P w K mg base N qual (defScope st) f cdv A outer s H E).nox c (defBody st) (entry N as) { nx := fun _ => R (.D .none), rt := fun r _ => R r }) : FnOk P w K mg base CX0 (k + 1) f fd ps (lift K n sp) := by
  refine F.ok S (fun vs H Q E h => ?_) (fun cdv A outer s H vs Q E hr h => ?_)
  · obtain ⟨G, pa, as, s, h, hl, _⟩ := h
    rw [h.len, hl, hn]
  · obtain ⟨G, pa, as, st0, h, hl, q⟩ := h
    refine ⟨_, pss_w, ?_⟩
    refine wB_mono (body cdv A outer s H E ⟨H, G, pa, []⟩ as _ rfl hr hl q G [] _ H (start_ok st0 h)) ?_ ?_ (fun _ _ z => ?_) fun _ _ z => ?_
    · rintro σ' H' ⟨A', G', ps', e', S', r⟩
      exact r .non G' H' S'.st .non
    · rintro v H' ⟨r, A', G', ps', σ', S', ro, q'⟩
      exact q' v G' H' S'.st ro
    · obtain ⟨_, _, _, _, _, z⟩ := z
      exact z
    · obtain ⟨_, _, _, _, _, z⟩ := z
      exact z
end Eng

set_option Elab.async false
set_option linter.all false
set_option maxRecDepth 100000
set_option maxHeartbeats 2000000
namespace Eng
open PySem PySem.Spec PyProof.Rows L2
open Evl (Ex)
/-! ### sorted of a tuple of ints, fewer than 64 -/
section
variable {pg : Program} {wo : World} {Ar : Around} {Ex0 : Value → Shared → Prop} {sh : Shared}
/-- the heap with a new list that takes what stands in us -/
def tkH (h : Heap) (us : List Value) : Heap := (h.push (seqObj "list" #[] 0)).update h.objs.size (Obj.mapSeq (· ++ us.toArray))
theorem coll_tup {t : Addr} {us : List Value} {R : List Value → Shared → Prop} {ob : Obj} {m : Nat} (g1 : sh.heap.get? t = some ob) (g2 : ob.cls = .type "tuple") (g3 : ob.data = .seq us.toArray m)
    (k : R us { sh with heap := tkH sh.heap us }) (few : us.length < 64) : wpAny (model pg wo) Ar (collect (.ref t)) R Ex0 sh := by
  unfold collect
  refine wpAny_bind (wpAny_runValue (codeAny_builtin entry_proto_collect' ?_))
  show wpAny _ _ (do again (.builtin "list.__iadd__" ⟨[← newList [], .ref t], []⟩)) _ _ sh
  refine wpAny_bind (wpAny_newList (wpAny_pure ⟨Code.quiet_builtin _ (by decide +kernel),
    codeAny_builtin entry_list_iadd' ?_⟩))
  show wpAny _ _ (Builtin.List.listExtendWith (.ref sh.heap.objs.size) (.ref t) (.ref sh.heap.objs.size)) _ _ _
  have g4 : (sh.heap.push (seqObj "list" #[] 0)).get? t = some ob := Heap.get?_push_of_some _ g1
  unfold Builtin.List.listExtendWith
  refine wpAny_bind (wpAny_typeOf (T := "tuple") ⟨ob, g4, g2⟩ ?_)
  have tt : (Value.type "tuple" == Value.type "tuple") = true := rfl
  rw [if_pos (by rw [tt, Bool.or_true])]
  refine wpAny_bind (listItems_at g4 g3 ?_)
  have g5 : (sh.heap.push (seqObj "list" #[] 0)).get? sh.heap.objs.size = some (seqObj "list" #[] 0) := Heap.get?_push_size _ rfl
  refine wpAny_bind (listItems_at (xs := #[]) (n := 0) g5 rfl ?_)
  rw [if_neg (by simp)]
  have big : us.length ≤ sizeLine + 1 := by rw [sizeLine_eq]; omega
  refine wpAny_bind (listUpdate_at (xs := #[]) (n := 0) g5 rfl ?_ (Nat.zero_le _) (by
    show ((#[] : Array Value) ++ us.toArray).size ≤ sizeLine + 1
    simp only [Array.size_append, List.size_toArray, List.length_nil]; omega))
  refine wpAny_pure ?_
  show wpAny (model pg wo) Ar (do
      let ob ← load sh.heap.objs.size
      match ob.data with
      | .seq ys _ => pure ys.toList
      | _ => unsupported "internal:collect") R Ex0 { sh with heap := tkH sh.heap us }
  refine wpAny_bind (wpAny_load (get?_update_seq g5 _) ?_)
  show wpAny (model pg wo) Ar (pure ((#[] : Array Value) ++ us.toArray).toList) R Ex0 _
  rw [show ((#[] : Array Value) ++ us.toArray).toList = us by simp]
  exact wpAny_pure k
theorem sortT_ints {t : Addr} {us : List Value} {ns : List Int} {R : Value → Shared → Prop} {ob : Obj} {m : Nat} (g1 : sh.heap.get? t = some ob) (g2 : ob.cls = .type "tuple") (g3 : ob.data = .seq us.toArray m) (hI : IntsAre us ns) (few : us.length < 64)
    (k : ∀ (out : Array Value) (ms : List Int), IntsAre out.toList ms → ms.Perm ns → ms.Pairwise (· ≤ ·) → R (.ref (sh.heap.objs.size + 1)) { sh with heap := sortedAll sh.heap us out }) :
    wpAny (model pg wo) Ar (call (.builtin "sorted") [.ref t]) R Ex0 sh := by
  refine Calls.call_function_entry kind_sorted plain_sorted entry_sorted (args_sorted1 _) ?_
  unfold Builtin.«sorted»
  refine wpAny_bind (m := checkCount "sorted" 1 1 _) (wpAny_pure (?_))
  refine wpAny_bind (coll_tup g1 g2 g3 ?_ few)
  refine wpAny_bind (wpAny_newList ?_)
  have sz : (tkH sh.heap us).objs.size = sh.heap.objs.size + 1 := by unfold tkH; rw [Heap.size_update, size_push']
  have at1 : ((tkH sh.heap us).push (seqObj "list" us.toArray 0)).get? (sh.heap.objs.size + 1) = some (seqObj "list" us.toArray 0) := by
    rw [← sz]; exact Heap.get?_push_size _ rfl
  show wpAny _ _ _ _ _ { sh with heap := (tkH sh.heap us).push (seqObj "list" us.toArray 0) }
  rw [sz]
  refine wpAny_bind (wpAny_holding (wpAny_call_entry slot_list_sort ⟨_, at1, rfl⟩ entry_list_sort
    (list_sort_tree at1 hI few fun out ms b1 b2 b3 => ⟨_, rfl, ?_⟩) (args_list_sort _)))
  exact wpAny_pure ⟨_, rfl, k out ms b1 b2 b3⟩
end
section
variable {X : Cx} {c : Ct}
theorem cr_sortTu : CallR X (.builtin "sorted") (fun vs H Q => ∃ (a : Addr) (ns : List Int), vs = [V.ref a] ∧ SqT X.K H a (ns.map V.int) ∧ ns.length < 64 ∧
    ∀ (ms : List Int) (p : Addr), ms.Perm ns → ms.Pairwise (· ≤ ·) → H p = none → Q (.ref p) (upd H p (.lst (ms.map V.int)))) := by
  intro pins s σ H vs us Q I r h
  obtain ⟨a, ns, rfl, hs, few, q⟩ := h
  obtain ⟨its, rv, ⟨ob, g1, g2, m, g3⟩, hz⟩ := I.tuple hs
  rw [Vals.ref1 r]
  have hi := rv.ints
  refine sortT_ints g1 g2 g3 hi (by rw [hi.length]; exact few) fun out ms h1 h2 h3 => ?_
  obtain ⟨ep, he⟩ := PyProof.Rows.sortedAll_at s.heap its out
  have hlen : (ms.map V.int).length ≤ sizeLine := by
    rw [List.length_map, h2.length_eq]
    exact small64 few
  refine ⟨.ref _, upd H (s.heap.objs.size + 1) (.lst (ms.map V.int)), ?_, rfl, q ms _ h2 h3 (I.hok.fresh (Nat.le_succ _))⟩
  exact I.laid (t' := s.toks) (fun _ _ => PyProof.Rows.sortedAll_old) (Nat.le_succ _) ⟨hlen, out.toList, ep, vals_of_ints h1, he⟩
theorem cl_sortTu {ns : List Int} {Q : List PyData → Prop} (few : ns.length < 64) (q : ∀ ms : List Int, ms.Perm ns → ms.Pairwise (· ≤ ·) → Q (ms.map .int)) : CalL X c (.builtin "sorted") [.tuple (ns.map .int)] Q := ⟨_, cr_sortTu, fun _ _ G H vs s h => by
  cases h with
  | cons h1 h2 =>
    cases h2
    obtain ⟨p, xs, rfl, hs, ha⟩ := dp_tup h1
    have ex := dall_ints_inv ha
    subst ex
    exact ⟨p, ns, rfl, Evl.ex_t s.sub hs, few, fun ms l h1 h2 hl => ⟨G, _, s.lay hl, ⟨l, _, rfl, hl, Evl.fresh_back s.sub hl, upd_same, dall_ints⟩, q ms h1 h2⟩⟩⟩
/-! ### for, over anything -/
theorem ws_forY {A : AS} {tg it : Expr} {body : List Stmt} {pos : Pos} {D : ADs} {I : Nat → AS → Prop} (h : WIY X c tg it A fun ds => I 0 A ∧ (∀ i x A', ds[i]? = some x → I i A' → WG X c tg x A' fun A2 => WB X c body A2 { D with nx := I (i + 1), ct := I (i + 1), bk := D.nx }) ∧ ∀ A', I ds.length A' → D.nx A')
    (hp : PassesOwn (model X.prog X.w) X.A X.env X.xe) (hc : X.calm = true := by rfl) (hs : ∀ x, foldedSetIterable it X.env x = pure x := by intro _; rfl) : WS X c (.For tg it body [] pos) A D := fun G ps σ H S =>
  wS_of (ps_for hp hc pi_w pg_w pss_w hs) (wI_mono (h G ps σ H S) fun J H1 ⟨G1, ds, s1, ok, i0, hi, hd⟩ => by
    have S1 := S.step s1
    refine ⟨fun i m σ' H' => m = ds.length - i ∧ i ≤ ds.length ∧ ∃ A' G' ps', Ex G1 G' ∧ St X.K c A' G' ps' σ' H' ∧ I i A', ⟨_, rfl, Nat.zero_le _, A, G1, ps, Ex.refl G1, S1, i0⟩, ?_⟩
    rintro i m σ' H' ⟨rfl, hle, A', G', ps', e', S', q⟩
    have ex := e'.trans S'.st.sub
    by_cases hlt : i < ds.length
    · refine .inr ⟨ok.go i H' ex hlt, fun σ2 H2 => ∃ A2 G2 ps2, Ex G1 G2 ∧ St X.K c A2 G2 ps2 σ2 H2 ∧ I (i + 1) A2, fun σ2 H2 z => ⟨ds.length - (i + 1), by omega, rfl, hlt, z⟩, fun x H2 y => ?_⟩
      obtain ⟨G2, d, s2, hdx, rd⟩ := ok.yld _ _ G' i H' x H2 e' S'.st hlt y
      refine wG_mono (hi i d A' hdx q G2 ps' σ' H2 x (S'.step s2) rd) fun σ3 H3 ⟨A3, G3, s3, S3, q3⟩ => ?_
      have e3 := (e'.trans s2.ex).trans s3.ex
      refine wB_mono (q3 G3 ps' σ3 H3 S3) (fun σ4 H4 ⟨A4, G4, ps4, e4, S4, q4⟩ => ⟨A4, G4, ps4, e3.trans e4, S4, q4⟩) (fun _ _ q => q) (fun σ4 H4 ⟨A4, G4, ps4, e4, S4, q4⟩ => ⟨A4, G4, ps4, (s1.ex.trans e3).trans e4, S4, q4⟩) (fun σ4 H4 ⟨A4, G4, ps4, e4, S4, q4⟩ => ⟨A4, G4, ps4, e3.trans e4, S4, q4⟩)
    · have e : i = ds.length := by omega
      subst e
      exact .inl ⟨ok.stop _ H' ex (Nat.le_refl _), A', G', ps', s1.ex.trans e', S', hd A' q⟩)
end
end Eng

set_option Elab.async false
set_option linter.all false
set_option maxRecDepth 100000
set_option maxHeartbeats 2000000
namespace Eng
open PySem PySem.Spec PyProof.Rows L2
open Evl (Ex)
section
variable {X : Cx} {c : Ct} {A : AS} {Q : PyData → Prop}
/-! ### x in, not in a list, data of any depth -/
theorem od_inD {d : PyData} {ds : List PyData} (hu : X.A.units + 65 < cLine) (s1 : SeqAt.shaped d = true) (s2 : SeqAt.shaped (.list ds) = true) (q : Q (.bool (ds.any fun z => PyData.eqv z d))) : OpD X c (compareOp .In) d (.list ds) Q :=
  ⟨_, op_inD hu, fun _ _ G H v1 v2 s h1 h2 => ⟨d, ds, dp_up s.sub d h1, dp_up s.sub _ h2, s1, s2, G, _, s.refl, .bl _, q⟩⟩
theorem od_ninD {d : PyData} {ds : List PyData} (hu : X.A.units + 65 < cLine) (s1 : SeqAt.shaped d = true) (s2 : SeqAt.shaped (.list ds) = true) (q : Q (.bool (!ds.any fun z => PyData.eqv z d))) : OpD X c (compareOp .NotIn) d (.list ds) Q :=
  ⟨_, op_notInD hu, fun _ _ G H v1 v2 s h1 h2 => ⟨d, ds, dp_up s.sub d h1, dp_up s.sub _ h2, s1, s2, G, _, s.refl, .bl _, q⟩⟩
/-! ### tuple(list) -/
theorem cd_tuple {ds : List PyData} (q : Q (.tuple ds)) : CalD X c (.type "tuple") [.list ds] Q := ⟨_, call_tuple_of, fun _ _ G H vs s h => by
  cases h with
  | cons h1 h2 =>
    cases h2
    obtain ⟨p, xs, rfl, hs, ha⟩ := dp_list h1
    refine ⟨p, xs, rfl, .inl ⟨Evl.ex_l s.sub hs, fun l hl => ?_⟩⟩
    have n := s.new (o := .tup xs) hl
    exact ⟨_, _, n, .tup (.inl (.inl upd_same)) (dp_upAll n.ex _ ha), q⟩⟩
/-! ### sorted of a list of tuples of ints -/
def tI (ns : List Int) : PyData := .tuple (ns.map .int)
theorem dall_perm {K : PySem.W.Frag} {G : Hp} : ∀ {ys xs : List V}, ys.Perm xs → ∀ {ps : List (List Int)}, DpAll K G xs (ps.map tI) → ∃ qs : List (List Int), qs.Perm ps ∧ DpAll K G ys (qs.map tI) := fun {ys xs} h => by
  induction h with
  | nil => intro ps hd; exact ⟨ps, .refl _, hd⟩
  | cons x _ ih =>
    intro ps hd
    cases ps with
    | nil => cases hd
    | cons p ps =>
      cases hd with
      | cons h1 h2 =>
        obtain ⟨qs, hq, hd⟩ := ih h2
        exact ⟨p :: qs, hq.cons p, .cons h1 hd⟩
  | swap x y l =>
    intro ps hd
    match ps, hd with
    | [], hd => cases hd
    | [p], hd => cases hd with
      | cons _ h2 => cases h2
    | p :: q :: ps, hd =>
      cases hd with
      | cons h1 h2 => cases h2 with
        | cons h2 h3 => exact ⟨q :: p :: ps, .swap _ _ _, .cons h2 (.cons h1 h3)⟩
  | trans _ _ ih1 ih2 =>
    intro ps hd
    obtain ⟨qs, hq, hd⟩ := ih2 hd
    obtain ⟨rs, hr, hd⟩ := ih1 hd
    exact ⟨rs, hr.trans hq, hd⟩
theorem tupI_of {K : PySem.W.Frag} {G H : Hp} {x : V} {ns : List Int} (e : Ex G H) (h : Dp K G x (tI ns)) : TupI K H x ns := by
  obtain ⟨t, xs, rfl, hs, ha⟩ := dp_tup h
  have ex := dall_ints_inv ha
  subst ex
  exact ⟨t, rfl, Evl.ex_t e hs⟩
theorem cl_sortTs {ps : List (List Int)} {d : Nat} {B : Int} {Q : List PyData → Prop} (hd : 1 ≤ d) (few : ps.length < 64) (hp : ∀ p ∈ ps, p.length = d ∧ TS.Bd B p)
    (q : ∀ qs : List (List Int), qs.Perm ps → qs.Pairwise (fun n m => TS.code B n ≤ TS.code B m) → Q (qs.map tI)) : CalL X c (.builtin "sorted") [.list (ps.map tI)] Q := ⟨_, cr_sortT (d := d) (B := B) hd, fun _ _ G H vs s h => by
  cases h with
  | cons h1 h2 =>
    cases h2
    obtain ⟨p, xs, rfl, hs, ha⟩ := dp_list h1
    refine ⟨p, xs, rfl, Evl.ex_l s.sub hs, by rw [dall_len ha, List.length_map]; exact few, fun x hx => ?_, fun ys l h1 h2 hl => ?_⟩
    · obtain ⟨i, hi⟩ := List.getElem?_of_mem hx
      obtain ⟨dx, hdx, r⟩ := dall_getV ha hi
      rw [List.getElem?_map] at hdx
      cases hq : ps[i]? with
      | none => rw [hq] at hdx; cases hdx
      | some n =>
        rw [hq] at hdx
        have ex : tI n = dx := Option.some.inj hdx
        subst ex
        obtain ⟨z1, z2⟩ := hp n (List.mem_of_getElem? hq)
        exact ⟨n, tupI_of s.sub r, z1, z2⟩
    · obtain ⟨qs, hq, hd⟩ := dall_perm h1 ha
      refine ⟨G, _, s.lay hl, ⟨l, _, rfl, hl, Evl.fresh_back s.sub hl, upd_same, hd⟩, q qs hq ?_⟩
      have hlen : ys.length = qs.length := by rw [dall_len hd, List.length_map]
      rw [List.pairwise_iff_getElem]
      intro i j hi hj hij
      have at1 : ∀ i (hi : i < qs.length), TupI X.K H (ys[i]'(by omega)) qs[i] := fun i hi => by
        obtain ⟨dx, hdx, r⟩ := dall_getV hd (List.getElem?_eq_getElem (show i < ys.length by omega))
        rw [List.getElem?_map, List.getElem?_eq_getElem hi] at hdx
        have ex : tI qs[i] = dx := Option.some.inj hdx
        subst ex
        exact tupI_of s.sub r
      exact (List.pairwise_iff_getElem.mp h2) i j (by omega) (by omega) hij _ _ (at1 i hi) (at1 j hj)⟩
end
end Eng

set_option Elab.async false
set_option linter.all false
set_option maxRecDepth 100000
set_option maxHeartbeats 2000000
namespace Eng
open PySem PySem.Spec PyProof.Rows L2
open Evl (Ex)
section
variable {X : Cx} {c : Ct} {Q : PyData → Prop}
theorem dall_bools {K : PySem.W.Frag} {G : Hp} : ∀ {vs : List V} {bs : List Bool}, DpAll K G vs (bs.map PyData.bool) → vs = bs.map V.bl
  | _, [], h => by cases h; rfl
  | _, b :: bs, h => by
    cases h with
    | cons h1 h2 =>
      cases h1
      rw [dall_bools h2]
      rfl
theorem cd_all {bs : List Bool} (hc : X.calm = true) (q : Q (.bool (bs.all id))) : CalD X c (.builtin "all") [.list (bs.map .bool)] Q := ⟨_, cr_all hc, fun _ _ G H vs s h => by
  cases h with
  | cons h1 h2 =>
    cases h2
    obtain ⟨p, xs, rfl, hs, ha⟩ := dp_list h1
    have ex := dall_bools ha
    subst ex
    exact ⟨p, bs, rfl, Evl.ex_l s.sub hs, G, _, s.refl, .bl _, q⟩⟩
theorem cd_any {bs : List Bool} (hc : X.calm = true) (q : Q (.bool (bs.any id))) : CalD X c (.builtin "any") [.list (bs.map .bool)] Q := ⟨_, cr_any hc, fun _ _ G H vs s h => by
  cases h with
  | cons h1 h2 =>
    cases h2
    obtain ⟨p, xs, rfl, hs, ha⟩ := dp_list h1
    have ex := dall_bools ha
    subst ex
    exact ⟨p, bs, rfl, Evl.ex_l s.sub hs, G, _, s.refl, .bl _, q⟩⟩
end
end Eng

set_option Elab.async false
set_option linter.all false
set_option maxRecDepth 100000
set_option maxHeartbeats 2000000
/-! PyC: operators and built-ins on data: what the interpreter says is what the machine does. -/
namespace Py
open PySem PySem.Spec PyProof.Rows L2
open Evl (Ex)
open Eng (dp_up dp_upAll dall_len dall_get dall_getV dall_app dall_set dp_int dp_str dp_bl dp_non dp_list dp_tup wE wT wA wS wB)
/-- the same in every heap -/
def Fla (K : PySem.W.Frag) (v : V) (d : PyData) : Prop := ∀ G, Dp K G v d
theorem fl_int {K : PySem.W.Frag} (i : Int) : Fla K (.int i) (.int i) := fun _ => .int i
theorem fl_bl {K : PySem.W.Frag} (i : Bool) : Fla K (.bl i) (.bool i) := fun _ => .bl i
theorem fl_str {K : PySem.W.Frag} (i : Str) : Fla K (.str i) (.str i) := fun _ => .str i
def OpS (X : Cx) (f : Value → Value → Sem Value) (d e r : PyData) : Prop := ∃ rr : R2, OpR X f rr ∧ ∀ v1 v2 H (Q : VK), Dp X.K H v1 d → Dp X.K H v2 e → (∀ v, Fla X.K v r → Q v H) → rr v1 v2 H Q
section
variable {X : Cx} {d e r : PyData}
theorem os_I0 {f : Value → Value → Sem Value} {g : Int → Int → Int} {i j : Int} (h : OpR X f (rI0 fun i j => .int (g i j))) : OpS X f (.int i) (.int j) (.int (g i j)) :=
  ⟨_, h, fun v1 v2 H Q h1 h2 q => ⟨i, j, dp_int h1, dp_int h2, q _ (fl_int _)⟩⟩
theorem os_I {f : Value → Value → Sem Value} {C : Int → Int → Prop} {g : Int → Int → Int} {i j : Int} (h : OpR X f (rI C fun i j => .int (g i j))) (hc : C i j) : OpS X f (.int i) (.int j) (.int (g i j)) :=
  ⟨_, h, fun v1 v2 H Q h1 h2 q => ⟨i, j, dp_int h1, dp_int h2, hc, q _ (fl_int _)⟩⟩
theorem os_B0 {f : Value → Value → Sem Value} {g : Int → Int → Bool} {i j : Int} (h : OpR X f (rI0 fun i j => .bl (g i j))) : OpS X f (.int i) (.int j) (.bool (g i j)) :=
  ⟨_, h, fun v1 v2 H Q h1 h2 q => ⟨i, j, dp_int h1, dp_int h2, q _ (fl_bl _)⟩⟩
theorem log_in {i : Int} (h : i.natAbs.log2 < 64) : -(2 ^ 64) < i ∧ i < 2 ^ 64 := by
  by_cases h0 : i.natAbs = 0
  · have : i = 0 := by omega
    subst this; decide
  · have := (Nat.log2_lt h0).mp h
    omega
theorem bin_ok {op : Operator} (h : binD op d e = some r) : OpS X (binaryOp op) d e r := by
  unfold binD at h
  split at h
  · split at h
    · cases h; exact os_I0 op_add
    · cases h; exact os_I0 op_sub
    · split at h
      · rename_i hm
        cases h; exact os_I op_mul (hm.imp log_in log_in)
      · cases h
    · split at h
      · cases h; exact os_I op_fdivW ‹_›
      · cases h
    · split at h
      · cases h; exact os_I op_mod ‹_›
      · cases h
    · cases h; exact os_I0 op_and
    · cases h; exact os_I0 op_or
    · cases h; exact os_I0 op_xor
    · split at h
      · cases h; exact os_I op_shlW ‹_›
      · cases h
    · split at h
      · cases h; exact os_I op_shr ‹_›
      · cases h
    · cases h
  · split at h
    · split at h
      · cases h
        exact ⟨_, op_add_str, fun v1 v2 H Q h1 h2 q => ⟨_, _, dp_str h1, dp_str h2, Evl.sz_of ‹_›, q _ (fl_str _)⟩⟩
      · cases h
    · cases h
  · cases h
theorem ibin_ok {op : Operator} (h : binD op d e = some r) (ho : op = .Add ∨ op = .BitXor ∨ op = .BitOr ∨ op = .Sub ∨ op = .BitAnd) : OpS X (inplaceOp op) d e r := by
  unfold binD at h
  split at h
  · split at h
    · cases h; exact os_I0 iop_add
    · cases h; exact os_I0 iop_sub
    · rcases ho with z | z | z | z | z <;> cases z
    · rcases ho with z | z | z | z | z <;> cases z
    · rcases ho with z | z | z | z | z <;> cases z
    · cases h; exact os_I0 iop_and
    · cases h; exact os_I0 iop_or
    · cases h; exact os_I0 iop_xor
    · rcases ho with z | z | z | z | z <;> cases z
    · rcases ho with z | z | z | z | z <;> cases z
    · cases h
  · split at h
    · split at h
      · cases h
        exact ⟨_, iop_add_str, fun v1 v2 H Q h1 h2 q => ⟨_, _, dp_str h1, dp_str h2, Evl.sz_of ‹_›, q _ (fl_str _)⟩⟩
      · cases h
    · cases h
  · cases h
theorem os_eqS {b : Bool} (hu : X.A.units + 64 < cLine) (h : eqD d e = some b) : OpS X (compareOp .Eq) d e (.bool b) := by
  have sc : ∀ {x y : V}, (∀ v1 H, Dp X.K H v1 d → v1 = x) → (∀ v1 H, Dp X.K H v1 e → v1 = y) → scal x y = true → decide (x = y) = b → OpS X (compareOp .Eq) d e (.bool b) := fun {x y} k1 k2 k3 k4 =>
    ⟨_, op_eq, fun v1 v2 H Q h1 h2 q => by rw [k1 v1 H h1, k2 v2 H h2]; exact ⟨k3, by rw [k4]; exact q _ (fl_bl _)⟩⟩
  unfold eqD at h
  split at h
  · cases h; exact sc (fun _ _ z => dp_int z) (fun _ _ z => dp_int z) rfl (by rw [dec_int, Bool.beq_eq_decide_eq])
  · cases h; exact sc (fun _ _ z => dp_bl z) (fun _ _ z => dp_bl z) rfl (by rw [dec_bl, Bool.beq_eq_decide_eq])
  · cases h; exact sc (fun _ _ z => dp_str z) (fun _ _ z => dp_str z) rfl (by rw [dec_str, Bool.beq_eq_decide_eq])
  · split at h
    · cases h
      rename_i hs
      exact ⟨_, op_eqD hu, fun v1 v2 H Q h1 h2 q => ⟨d, e, h1, h2, hs.1, hs.2, q _ (fl_bl _)⟩⟩
    · cases h
theorem os_neS {b : Bool} (hu : X.A.units + 64 < cLine) (h : eqD d e = some b) : OpS X (compareOp .NotEq) d e (.bool (!b)) := by
  have sc : ∀ {x y : V}, (∀ v1 H, Dp X.K H v1 d → v1 = x) → (∀ v1 H, Dp X.K H v1 e → v1 = y) → scal x y = true → decide (x = y) = b → OpS X (compareOp .NotEq) d e (.bool (!b)) := fun {x y} k1 k2 k3 k4 =>
    ⟨_, op_ne, fun v1 v2 H Q h1 h2 q => by rw [k1 v1 H h1, k2 v2 H h2]; exact ⟨k3, by rw [k4]; exact q _ (fl_bl _)⟩⟩
  unfold eqD at h
  split at h
  · cases h; exact sc (fun _ _ z => dp_int z) (fun _ _ z => dp_int z) rfl (by rw [dec_int, Bool.beq_eq_decide_eq])
  · cases h; exact sc (fun _ _ z => dp_bl z) (fun _ _ z => dp_bl z) rfl (by rw [dec_bl, Bool.beq_eq_decide_eq])
  · cases h; exact sc (fun _ _ z => dp_str z) (fun _ _ z => dp_str z) rfl (by rw [dec_str, Bool.beq_eq_decide_eq])
  · split at h
    · cases h
      rename_i hs
      exact ⟨_, op_neD hu, fun v1 v2 H Q h1 h2 q => ⟨d, e, h1, h2, hs.1, hs.2, q _ (fl_bl _)⟩⟩
    · cases h
theorem inT_ok (hu : X.A.units + 65 < cLine) : OpR X (compareOp .In) (fun x y H Q => ∃ d ds, Dp X.K H x d ∧ Dp X.K H y (.tuple ds) ∧ SeqAt.shaped d = true ∧ SeqAt.shaped (.tuple ds) = true ∧ Q (.bl (ds.any fun z => PyData.eqv z d)) H) := by
  intro pins s σ H x y v u Q I rx ry h
  obtain ⟨d, ds, hd, he, sd, se, q⟩ := h
  obtain ⟨as, r1⟩ := Dp.reads I d x v hd rx
  obtain ⟨bs, r2⟩ := Dp.reads I (.tuple ds) y u he ry
  exact SeqAt.in_tuple_reads r2 r1 (SeqAt.canLay_of_shaped se) (SeqAt.canLay_of_shaped sd) (room_in_shaped sd hu) ⟨.bl _, H, I, rfl, q⟩
theorem ninT_ok (hu : X.A.units + 65 < cLine) : OpR X (compareOp .NotIn) (fun x y H Q => ∃ d ds, Dp X.K H x d ∧ Dp X.K H y (.tuple ds) ∧ SeqAt.shaped d = true ∧ SeqAt.shaped (.tuple ds) = true ∧ Q (.bl (!ds.any fun z => PyData.eqv z d)) H) := by
  intro pins s σ H x y v u Q I rx ry h
  obtain ⟨d, ds, hd, he, sd, se, q⟩ := h
  obtain ⟨as, r1⟩ := Dp.reads I d x v hd rx
  obtain ⟨bs, r2⟩ := Dp.reads I (.tuple ds) y u he ry
  exact SeqAt.notIn_tuple_reads r2 r1 (SeqAt.canLay_of_shaped se) (SeqAt.canLay_of_shaped sd) (room_in_shaped sd hu) ⟨.bl _, H, I, rfl, q⟩
theorem cmp_ok {op : CmpOp} {b : Bool} (hu : X.A.units + 65 < cLine) (h : cmpD op d e = some b) : OpS X (compareOp op) d e (.bool b) := by
  have hu2 : X.A.units + 64 < cLine := by omega
  unfold cmpD at h
  split at h
  · exact os_eqS hu2 h
  · cases q : eqD d e with
    | none => rw [q] at h; cases h
    | some k => rw [q] at h; cases h; exact os_neS hu2 q
  · unfold inD at h
    split at h
    · split at h
      · cases h
        rename_i hs
        exact ⟨_, op_inD hu, fun v1 v2 H Q h1 h2 q => ⟨d, _, h1, h2, hs.1, hs.2, q _ (fl_bl _)⟩⟩
      · cases h
    · split at h
      · cases h
        rename_i hs
        exact ⟨_, inT_ok hu, fun v1 v2 H Q h1 h2 q => ⟨d, _, h1, h2, hs.1, hs.2, q _ (fl_bl _)⟩⟩
      · cases h
    · cases h
  · cases q : inD d e with
    | none => rw [q] at h; cases h
    | some k =>
      rw [q] at h
      cases h
      unfold inD at q
      split at q
      · split at q
        · cases q
          rename_i hs
          exact ⟨_, op_notInD hu, fun v1 v2 H Q h1 h2 q => ⟨d, _, h1, h2, hs.1, hs.2, q _ (fl_bl _)⟩⟩
        · cases q
      · split at q
        · cases q
          rename_i hs
          exact ⟨_, ninT_ok hu, fun v1 v2 H Q h1 h2 q => ⟨d, _, h1, h2, hs.1, hs.2, q _ (fl_bl _)⟩⟩
        · cases q
      · cases q
  · split at h
    · cases h
      refine ⟨_, op_isN, fun v1 v2 H Q h1 h2 q => ⟨dp_non h2, ?_⟩⟩
      have e : decide (v1 = V.non) = isNon d := by
        cases h1 <;> simp [isNon]
      rw [e]
      exact q _ (fl_bl _)
    · cases h
  · split at h
    · cases h
      refine ⟨_, op_notN, fun v1 v2 H Q h1 h2 q => ⟨dp_non h2, ?_⟩⟩
      have e : (!decide (v1 = V.non)) = !isNon d := by
        cases h1 <;> simp [isNon]
      rw [e]
      exact q _ (fl_bl _)
    · cases h
  · split at h
    · split at h
      · cases h; exact os_B0 op_lt
      · cases h; exact os_B0 op_le
      · cases h; exact os_B0 op_gt
      · cases h; exact os_B0 op_ge
      · cases h
    · cases h
theorem un_ok {op : UnaryOp} (h : unD op d = some r) : ∃ rr, UnR X (unaryOp op) rr ∧ ∀ v1 H (Q : VK), Dp X.K H v1 d → (∀ v, Fla X.K v r → Q v H) → rr v1 H Q := by
  unfold unD at h
  split at h
  · split at h
    · cases h; exact ⟨_, un_neg, fun v1 H Q h1 q => ⟨_, dp_int h1, q _ (fl_int _)⟩⟩
    · cases h; exact ⟨_, un_inv, fun v1 H Q h1 q => ⟨_, dp_int h1, q _ (fl_int _)⟩⟩
    · cases h
  · cases h
theorem tru_of {H : Hp} {v : V} {k : Bool} (h : Dp X.K H v d) (t : truD d = some k) : TruV X.K v H k := by
  have emp : ∀ {xs : List V} {ds : List PyData}, DpAll X.K H xs ds → xs.isEmpty = ds.isEmpty := fun h => by cases h <;> rfl
  cases h with
  | non => exact (Option.some.inj t).symm
  | bl b => exact (Option.some.inj t).symm
  | int i => exact (Option.some.inj t).symm
  | str x => cases t
  | lst a b => exact .inl ⟨_, a, by rw [emp b]; exact (Option.some.inj t).symm⟩
  | tup a b => exact .inr (.inl ⟨_, a, by rw [emp b]; exact (Option.some.inj t).symm⟩)
theorem at_ok {H : Hp} {xs : List V} {ds : List PyData} {i : Int} {d : PyData} (ha : DpAll X.K H xs ds) (ea : atI ds i = some d) : ∃ w, atI xs i = some w ∧ Dp X.K H w d := by
  unfold atI at ea ⊢
  rw [dall_len ha]
  cases q : ixN ds.length i with
  | none => rw [q] at ea; cases ea
  | some j => rw [q] at ea; exact dall_get ha ea
/-! ### built-ins -/
def bfName : Bf → Str
  | .len => "len" | .abs => "abs" | .int => "int" | .min => "min" | .max => "max" | .sum => "sum" | .any => "any" | .all => "all" | .list => "list" | .sorted => "sorted" | .tuple => "tuple"
def bfVal : Bf → Value
  | .len => .builtin "len" | .abs => .builtin "abs" | .int => .type "int" | .min => .builtin "min" | .max => .builtin "max" | .sum => .builtin "sum" | .any => .builtin "any" | .all => .builtin "all" | .list => .type "list" | .sorted => .builtin "sorted" | .tuple => .type "tuple"
theorem d1 {K : PySem.W.Frag} {H : Hp} {vs : List V} {d : PyData} (h : DpAll K H vs [d]) : ∃ v, vs = [v] ∧ Dp K H v d := by
  cases h with
  | cons h t => cases t; exact ⟨_, rfl, h⟩
theorem d2 {K : PySem.W.Frag} {H : Hp} {vs : List V} {d e : PyData} (h : DpAll K H vs [d, e]) : ∃ v w, vs = [v, w] ∧ Dp K H v d ∧ Dp K H w e := by
  cases h with
  | cons h t => cases t with
    | cons h2 t => cases t; exact ⟨_, _, rfl, h, h2⟩
theorem ints_of : ∀ {ds : List PyData} {is : List Int}, intsD ds = some is → ds = is.map .int
  | [], _, h => by cases h; rfl
  | .int i :: ds, is, h => by
    unfold intsD at h
    cases q : intsD ds with
    | none => rw [q] at h; cases h
    | some js =>
      rw [q] at h
      have e : i :: js = is := Option.some.inj h
      subst e
      rw [List.map_cons, ← ints_of q]
  | .none :: _, _, h => by cases h
  | .bool _ :: _, _, h => by cases h
  | .str _ :: _, _, h => by cases h
  | .list _ :: _, _, h => by cases h
  | .tuple _ :: _, _, h => by cases h
  | .dict _ :: _, _, h => by cases h
theorem bools_of : ∀ {ds : List PyData} {is : List Bool}, boolsD ds = some is → ds = is.map .bool
  | [], _, h => by cases h; rfl
  | .bool i :: ds, is, h => by
    unfold boolsD at h
    cases q : boolsD ds with
    | none => rw [q] at h; cases h
    | some js =>
      rw [q] at h
      have e : i :: js = is := Option.some.inj h
      subst e
      rw [List.map_cons, ← bools_of q]
  | .none :: _, _, h => by cases h
  | .int _ :: _, _, h => by cases h
  | .str _ :: _, _, h => by cases h
  | .list _ :: _, _, h => by cases h
  | .tuple _ :: _, _, h => by cases h
  | .dict _ :: _, _, h => by cases h
theorem dall_ints_inv {K : PySem.W.Frag} {G : Hp} : ∀ {vs : List V} {ns : List Int}, DpAll K G vs (ns.map PyData.int) → vs = ns.map V.int
  | _, [], h => by cases h; rfl
  | _, n :: ns, h => by
    cases h with
    | cons h1 h2 => cases h1; rw [dall_ints_inv h2]; rfl
theorem dall_bools_inv {K : PySem.W.Frag} {G : Hp} : ∀ {vs : List V} {ns : List Bool}, DpAll K G vs (ns.map PyData.bool) → vs = ns.map V.bl
  | _, [], h => by cases h; rfl
  | _, n :: ns, h => by
    cases h with
    | cons h1 h2 => cases h1; rw [dall_bools_inv h2]; rfl
theorem dall_ints {K : PySem.W.Frag} {G : Hp} : ∀ {ns : List Int}, DpAll K G (ns.map V.int) (ns.map PyData.int)
  | [] => .nil
  | _ :: _ => .cons (.int _) dall_ints
theorem minL_mem : ∀ l : List Int, l ≠ [] → minL l ∈ l ∧ ∀ n ∈ l, minL l ≤ n
  | [], h => absurd rfl h
  | [i], _ => ⟨List.mem_cons_self, fun n hn => by rw [List.mem_singleton.mp hn]; exact Int.le_refl _⟩
  | i :: j :: l, _ => by
    obtain ⟨h1, h2⟩ := minL_mem (j :: l) (fun z => nomatch z)
    show min i (minL (j :: l)) ∈ _ ∧ ∀ n ∈ _, min i (minL (j :: l)) ≤ n
    refine ⟨?_, fun n hn => ?_⟩
    · by_cases c : i ≤ minL (j :: l)
      · rw [Int.min_eq_left c]; exact List.mem_cons_self
      · rw [Int.min_eq_right (by omega)]; exact List.mem_cons_of_mem _ h1
    · rcases List.mem_cons.mp hn with rfl | hn
      · omega
      · have := h2 n hn; omega
theorem maxL_mem : ∀ l : List Int, l ≠ [] → maxL l ∈ l ∧ ∀ n ∈ l, n ≤ maxL l
  | [], h => absurd rfl h
  | [i], _ => ⟨List.mem_cons_self, fun n hn => by rw [List.mem_singleton.mp hn]; exact Int.le_refl _⟩
  | i :: j :: l, _ => by
    obtain ⟨h1, h2⟩ := maxL_mem (j :: l) (fun z => nomatch z)
    show max i (maxL (j :: l)) ∈ _ ∧ ∀ n ∈ _, n ≤ max i (maxL (j :: l))
    refine ⟨?_, fun n hn => ?_⟩
    · by_cases c : maxL (j :: l) ≤ i
      · rw [Int.max_eq_left c]; exact List.mem_cons_self
      · rw [Int.max_eq_right (by omega)]; exact List.mem_cons_of_mem _ h1
    · rcases List.mem_cons.mp hn with rfl | hn
      · omega
      · have := h2 n hn; omega
theorem insI_perm (i : Int) : ∀ l, (insI i l).Perm (i :: l)
  | [] => .refl _
  | j :: l => by
    unfold insI
    split
    · exact .refl _
    · exact ((insI_perm i l).cons j).trans (.swap i j l)
theorem sortI_perm : ∀ l, (sortI l).Perm l
  | [] => .refl _
  | i :: l => (insI_perm i _).trans ((sortI_perm l).cons i)
theorem insI_sorted (i : Int) : ∀ l, l.Pairwise (· ≤ ·) → (insI i l).Pairwise (· ≤ ·)
  | [], _ => List.pairwise_singleton _ _
  | j :: l, h => by
    obtain ⟨h1, h2⟩ := List.pairwise_cons.mp h
    unfold insI
    split
    · rename_i c
      exact List.pairwise_cons.mpr ⟨fun k hk => by
        rcases List.mem_cons.mp hk with rfl | hk
        · exact c
        · exact Int.le_trans c (h1 k hk), h⟩
    · rename_i c
      refine List.pairwise_cons.mpr ⟨fun k hk => ?_, insI_sorted i l h2⟩
      rcases List.mem_cons.mp ((insI_perm i l).mem_iff.mp hk) with rfl | hk
      · omega
      · exact h1 k hk
theorem sortI_sorted : ∀ l, (sortI l).Pairwise (· ≤ ·)
  | [] => .nil
  | i :: l => insI_sorted i _ (sortI_sorted l)
theorem sorted_uniq : ∀ {a b : List Int}, a.Perm b → a.Pairwise (· ≤ ·) → b.Pairwise (· ≤ ·) → a = b
  | [], b, h, _, _ => (List.nil_perm.mp h).symm
  | x :: a, [], h, _, _ => absurd h.length_eq (by simp)
  | x :: a, y :: b, h, ha, hb => by
    obtain ⟨a1, a2⟩ := List.pairwise_cons.mp ha
    obtain ⟨b1, b2⟩ := List.pairwise_cons.mp hb
    have e : x = y := by
      have h1 : x ∈ y :: b := h.mem_iff.mp List.mem_cons_self
      have h2 : y ∈ x :: a := h.mem_iff.mpr List.mem_cons_self
      rcases List.mem_cons.mp h1 with e | e
      · exact e
      · rcases List.mem_cons.mp h2 with e2 | e2
        · exact e2.symm
        · have := b1 x e; have := a1 y e2; omega
    subst e
    rw [sorted_uniq (List.perm_cons x |>.mp h) a2 b2]
theorem biF_ok {f : Bf} {ds : List PyData} (hc : X.calm = true) (h : biF f ds = some r) : ∃ rr, CallR X (bfVal f) rr ∧ ∀ vs H (Q : VK), DpAll X.K H vs ds → (∀ v, Fla X.K v r → Q v H) → rr vs H Q := by
  unfold biF at h
  split at h
  · split at h
    · cases h
      refine ⟨_, call_len_seq, fun vs H Q hv q => ?_⟩
      obtain ⟨v, rfl, hd⟩ := d1 hv
      obtain ⟨p, xs, rfl, hs, ha⟩ := dp_list hd
      exact ⟨p, xs, rfl, .inl hs, by rw [dall_len ha]; exact q _ (fl_int _)⟩
    · cases h
      refine ⟨_, call_len_seq, fun vs H Q hv q => ?_⟩
      obtain ⟨v, rfl, hd⟩ := d1 hv
      obtain ⟨p, xs, rfl, hs, ha⟩ := dp_tup hd
      exact ⟨p, xs, rfl, .inr hs, by rw [dall_len ha]; exact q _ (fl_int _)⟩
    · split at h
      · cases h
        refine ⟨_, call_len_str, fun vs H Q hv q => ?_⟩
        obtain ⟨v, rfl, hd⟩ := d1 hv
        rw [dp_str hd]
        exact ⟨_, rfl, Evl.sz_of ‹_›, q _ (fl_int _)⟩
      · cases h
    · cases h
  · split at h
    · cases h
      refine ⟨_, call_abs, fun vs H Q hv q => ?_⟩
      obtain ⟨v, rfl, hd⟩ := d1 hv
      rw [dp_int hd]
      exact ⟨_, rfl, q _ (fl_int _)⟩
    · cases h
  · split at h
    · cases h
      refine ⟨_, call_int1, fun vs H Q hv q => ?_⟩
      obtain ⟨v, rfl, hd⟩ := d1 hv
      rw [dp_int hd]
      exact .inl ⟨_, rfl, q _ (fl_int _)⟩
    · cases h
      refine ⟨_, call_int1, fun vs H Q hv q => ?_⟩
      obtain ⟨v, rfl, hd⟩ := d1 hv
      rw [dp_bl hd]
      exact .inr ⟨_, rfl, q _ (fl_int _)⟩
    · cases h
  · split at h
    · cases h
      refine ⟨_, call_min2 hc, fun vs H Q hv q => ?_⟩
      obtain ⟨v, w, rfl, hd, he⟩ := d2 hv
      rw [dp_int hd, dp_int he]
      exact ⟨_, _, rfl, q _ (fl_int _)⟩
    · split at h
      · cases h
        rename_i i is hi
        refine ⟨_, cr_min hc, fun vs H Q hv q => ?_⟩
        obtain ⟨v, rfl, hd⟩ := d1 hv
        obtain ⟨p, xs, rfl, hs, ha⟩ := dp_list hd
        rw [ints_of hi] at ha
        rw [dall_ints_inv ha] at hs
        refine ⟨p, _, rfl, hs, by simp, fun m hm hle => ?_⟩
        obtain ⟨z1, z2⟩ := minL_mem (i :: is) (fun z => nomatch z)
        have e : m = minL (i :: is) := by have := hle _ z1; have := z2 m hm; omega
        rw [e]; exact q _ (fl_int _)
      · cases h
    · cases h
  · split at h
    · cases h
      refine ⟨_, call_max2 hc, fun vs H Q hv q => ?_⟩
      obtain ⟨v, w, rfl, hd, he⟩ := d2 hv
      rw [dp_int hd, dp_int he]
      exact ⟨_, _, rfl, q _ (fl_int _)⟩
    · split at h
      · cases h
        rename_i i is hi
        refine ⟨_, cr_max hc, fun vs H Q hv q => ?_⟩
        obtain ⟨v, rfl, hd⟩ := d1 hv
        obtain ⟨p, xs, rfl, hs, ha⟩ := dp_list hd
        rw [ints_of hi] at ha
        rw [dall_ints_inv ha] at hs
        refine ⟨p, _, rfl, hs, by simp, fun m hm hle => ?_⟩
        obtain ⟨z1, z2⟩ := maxL_mem (i :: is) (fun z => nomatch z)
        have e : m = maxL (i :: is) := by have := hle _ z1; have := z2 m hm; omega
        rw [e]; exact q _ (fl_int _)
      · cases h
    · cases h
  · split at h
    · rename_i l
      cases hi : intsD l with
      | none => rw [hi] at h; cases h
      | some is =>
        rw [hi] at h
        cases h
        refine ⟨_, cr_sum hc, fun vs H Q hv q => ?_⟩
        obtain ⟨v, rfl, hd⟩ := d1 hv
        obtain ⟨p, xs, rfl, hs, ha⟩ := dp_list hd
        rw [ints_of hi] at ha
        rw [dall_ints_inv ha] at hs
        exact ⟨p, is, rfl, hs, q _ (fl_int _)⟩
    · cases h
  · split at h
    · rename_i l
      cases hi : boolsD l with
      | none => rw [hi] at h; cases h
      | some is =>
        rw [hi] at h
        cases h
        refine ⟨_, cr_any hc, fun vs H Q hv q => ?_⟩
        obtain ⟨v, rfl, hd⟩ := d1 hv
        obtain ⟨p, xs, rfl, hs, ha⟩ := dp_list hd
        rw [bools_of hi] at ha
        rw [dall_bools_inv ha] at hs
        exact ⟨p, is, rfl, hs, q _ (fl_bl _)⟩
    · cases h
  · split at h
    · rename_i l
      cases hi : boolsD l with
      | none => rw [hi] at h; cases h
      | some is =>
        rw [hi] at h
        cases h
        refine ⟨_, cr_all hc, fun vs H Q hv q => ?_⟩
        obtain ⟨v, rfl, hd⟩ := d1 hv
        obtain ⟨p, xs, rfl, hs, ha⟩ := dp_list hd
        rw [bools_of hi] at ha
        rw [dall_bools_inv ha] at hs
        exact ⟨p, is, rfl, hs, q _ (fl_bl _)⟩
    · cases h
  · cases h
theorem biL_ok {f : Bf} {ds es : List PyData} (h : biL f ds = some es) : ∃ rr, CallR X (bfVal f) rr ∧ ∀ vs H (Q : VK), DpAll X.K H vs ds → (∀ l xs, H l = none → DpAll X.K H xs es → Q (.ref l) (upd H l (.lst xs))) → rr vs H Q := by
  unfold biL at h
  split at h
  · split at h
    · cases h
      refine ⟨_, call_list_of, fun vs H Q hv q => ?_⟩
      obtain ⟨v, rfl, hd⟩ := d1 hv
      obtain ⟨p, xs, rfl, hs, ha⟩ := dp_list hd
      exact ⟨p, xs, rfl, .inl hs, fun l hl => q l xs hl ha⟩
    · cases h
      refine ⟨_, call_list_of, fun vs H Q hv q => ?_⟩
      obtain ⟨v, rfl, hd⟩ := d1 hv
      obtain ⟨p, xs, rfl, hs, ha⟩ := dp_tup hd
      exact ⟨p, xs, rfl, .inr hs, fun l hl => q l xs hl ha⟩
    · cases h
  · split at h
    · rename_i l
      cases hi : intsD l with
      | none => rw [hi] at h; cases h
      | some is =>
        rw [hi] at h
        cases h
        refine ⟨_, cr_sortedI, fun vs H Q hv q => ?_⟩
        obtain ⟨v, rfl, hd⟩ := d1 hv
        obtain ⟨p, xs, rfl, hs, ha⟩ := dp_list hd
        rw [ints_of hi] at ha
        rw [dall_ints_inv ha] at hs
        refine ⟨p, is, rfl, hs, fun ns' a perm rising hn => ?_⟩
        rw [sorted_uniq (perm.trans (sortI_perm is).symm) rising (sortI_sorted is)]
        exact q a _ hn dall_ints
    · cases h
  · cases h
theorem biT_ok {f : Bf} {ds es : List PyData} (h : biT f ds = some es) : ∃ rr, CallR X (bfVal f) rr ∧ ∀ vs H (Q : VK), DpAll X.K H vs ds → (∀ l xs, H l = none → DpAll X.K H xs es → Q (.ref l) (upd H l (.tup xs))) → rr vs H Q := by
  unfold biT at h
  split at h
  · split at h
    · cases h
      refine ⟨_, call_tuple_of, fun vs H Q hv q => ?_⟩
      obtain ⟨v, rfl, hd⟩ := d1 hv
      obtain ⟨p, xs, rfl, hs, ha⟩ := dp_list hd
      exact ⟨p, xs, rfl, .inl ⟨hs, fun l hl => q l xs hl ha⟩⟩
    · cases h
  · cases h
end
end Py

set_option Elab.async false
set_option linter.all false
set_option maxRecDepth 100000
set_option maxHeartbeats 2000000
/-! PyD: what it means that the interpreter is right; the rules, one a construct. -/
namespace Py
open PySem PySem.Spec PyProof.Rows L2
open Evl (Ex)
open Eng (dp_up dp_upAll dall_len dall_get dall_getV dall_app dall_set dp_int dp_str dp_bl dp_non dp_list dp_tup wE wT wA wS wB pe_w pt_w pa_w ps_w pss_w wE_of wT_of wA_of wS_of wB_of wE_mono wT_mono wA_mono)

/-! ### the monad, inverted -/
section
variable {α β : Type} {A A1 : AS}
theorem bind_inv {m : M α} {f : α → M β} {o : Out β} (h : M.bind m f A = some o) : (∃ a A1, m A = some (.ok a A1) ∧ f a A1 = some o) ∨ (∃ C A1, m A = some (.ex C A1) ∧ o = .ex C A1) := by
  unfold M.bind at h
  cases q : m A with
  | none => rw [q] at h; cases h
  | some r =>
    rw [q] at h
    cases r with
    | ok a A1 => exact .inl ⟨a, A1, rfl, h⟩
    | ex C A1 => exact .inr ⟨C, A1, rfl, (Option.some.inj h).symm⟩
theorem then_inv {m : M α} {f : α → F} {o : Fl} (h : M.then m f A = some o) : (∃ a A1, m A = some (.ok a A1) ∧ f a A1 = some o) ∨ (∃ C A1, m A = some (.ex C A1) ∧ o = .ex C A1) := by
  unfold M.then at h
  cases q : m A with
  | none => rw [q] at h; cases h
  | some r =>
    rw [q] at h
    cases r with
    | ok a A1 => exact .inl ⟨a, A1, rfl, h⟩
    | ex C A1 => exact .inr ⟨C, A1, rfl, (Option.some.inj h).symm⟩
theorem of_inv {p : Option α} {o : Out α} (h : M.of p A = some o) : ∃ a, p = some a ∧ o = .ok a A := by
  unfold M.of at h
  cases p with
  | none => cases h
  | some a => exact ⟨a, rfl, (Option.some.inj h).symm⟩
theorem ret_inv {a : α} {o : Out α} (h : M.ret a A = some o) : o = .ok a A := (Option.some.inj h).symm
theorem view_inv {s : SV} {o : Out PyData} (h : view s A = some o) : ∃ d, viewOf A.μ s = some d ∧ o = .ok d A := by
  unfold view at h
  cases q : viewOf A.μ s with
  | none => rw [q] at h; cases h
  | some d => rw [q] at h; exact ⟨d, rfl, (Option.some.inj h).symm⟩
/-- no exception comes from these -/
theorem vbind {s : SV} {f : PyData → M β} {o : Out β} (h : M.bind (view s) f A = some o) : ∃ d, viewOf A.μ s = some d ∧ f d A = some o := by
  rcases bind_inv h with ⟨a, A1, h1, h2⟩ | ⟨C, A1, h1, h2⟩
  · obtain ⟨d, e1, e2⟩ := view_inv h1
    cases e2; exact ⟨_, e1, h2⟩
  · obtain ⟨d, e1, e2⟩ := view_inv h1; cases e2
theorem obind {p : Option α} {f : α → M β} {o : Out β} (h : M.bind (M.of p) f A = some o) : ∃ a, p = some a ∧ f a A = some o := by
  rcases bind_inv h with ⟨a, A1, h1, h2⟩ | ⟨C, A1, h1, h2⟩
  · obtain ⟨d, e1, e2⟩ := of_inv h1
    cases e2; exact ⟨_, e1, h2⟩
  · obtain ⟨d, e1, e2⟩ := of_inv h1; cases e2
end

/-- what is wished of an exception of the class C at the state A -/
def XOkC (X : Cx) (c : Ct) (C : Str) (A : AS) : Prop := ∃ W, Takes X W ∧ ∃ a, X.mg C = some (.ref a) ∧ ∀ G ps σ H, St X.K c A G ps σ H → W (.ref a) none σ H
def XOk {α : Type} (X : Cx) (c : Ct) : Out α → Prop
  | .ok _ _ => True
  | .ex C A => XOkC X c C A
def Post (X : Cx) (c : Ct) (G : Hp) (ps : List Addr) (σ : L2.St) (o : Out SV) : VK := fun v H' => ∃ sv A', o = .ok sv A' ∧ ∃ G' qs, Ex G G' ∧ Ext ps qs ∧ St X.K c A' G' qs σ H' ∧ VOk X.K G' qs v sv
def PostT (X : Cx) (c : Ct) (G : Hp) (ps : List Addr) (σ : L2.St) (o : Out Bool) : Bool → Hp → Prop := fun b H' => ∃ A', o = .ok b A' ∧ ∃ G' qs, Ex G G' ∧ Ext ps qs ∧ St X.K c A' G' qs σ H'
def PostA (X : Cx) (c : Ct) (G : Hp) (ps : List Addr) (σ : L2.St) (o : Out (List SV)) : List V → Hp → Prop := fun vs H' => ∃ ss A', o = .ok ss A' ∧ ∃ G' qs, Ex G G' ∧ Ext ps qs ∧ St X.K c A' G' qs σ H' ∧ VsOk X.K G' qs vs ss
def SE (X : Cx) (c : Ct) (e : Expr) (A : AS) (o : Out SV) : Prop := ∀ G ps σ H, St X.K c A G ps σ H → XOk X c o → wE X e σ H (Post X c G ps σ o)
def STt (X : Cx) (c : Ct) (e : Expr) (A : AS) (o : Out Bool) : Prop := ∀ G ps σ H, St X.K c A G ps σ H → XOk X c o → wT X e σ H (PostT X c G ps σ o)
def SA (X : Cx) (c : Ct) (es : List Expr) (A : AS) (o : Out (List SV)) : Prop := ∀ G ps σ H, St X.K c A G ps σ H → XOk X c o → wA X es σ H (PostA X c G ps σ o)

section
variable {X : Cx} {c : Ct} {A A1 A2 : AS} {a b e : Expr} {es : List Expr} {pos p : Pos} {o : Out SV} {G G1 : Hp} {ps qs : List Addr} {σ : L2.St} {H H1 : Hp}
theorem opF {f : Value → Value → Sem Value} : OpR X f (fun _ _ _ _ => False) := fun _ _ _ _ _ _ _ _ _ _ _ _ h => h.elim
theorem Post.up {v : V} (e : Ex G G1) (x : Ext ps qs) (h : Post X c G1 qs σ o v H) : Post X c G ps σ o v H := by
  obtain ⟨sv, A', e1, G', rs, e2, x2, S, r⟩ := h
  exact ⟨sv, A', e1, G', rs, e.trans e2, x.trans x2, S, r⟩
theorem PostT.up {b : Bool} {o : Out Bool} (e : Ex G G1) (x : Ext ps qs) (h : PostT X c G1 qs σ o b H) : PostT X c G ps σ o b H := by
  obtain ⟨A', e1, G', rs, e2, x2, S⟩ := h
  exact ⟨A', e1, G', rs, e.trans e2, x.trans x2, S⟩
theorem post_of {sv : SV} {v : V} (S : St X.K c A G ps σ H) (r : VOk X.K G ps v sv) : Post X c G ps σ (.ok sv A) v H := ⟨sv, A, rfl, G, ps, Ex.refl _, Ext.refl _, S, r⟩
/-- nothing comes behind an exception -/
theorem post_ex {C : Str} {v : V} {α : Prop} (h : Post X c G ps σ (.ex C A) v H) : α := by
  obtain ⟨sv, A', e1, _⟩ := h; cases e1
theorem postT_ex {C : Str} {v : Bool} {α : Prop} (h : PostT X c G ps σ (.ex C A) v H) : α := by
  obtain ⟨A', e1, _⟩ := h; cases e1
theorem postA_ex {C : Str} {v : List V} {α : Prop} (h : PostA X c G ps σ (.ex C A) v H) : α := by
  obtain ⟨sv, A', e1, _⟩ := h; cases e1
/-- one operand, then what follows -/
theorem go1 {x : SV} {Q : VK} (h : SE X c a A (.ok x A1)) (S : St X.K c A G ps σ H) (k : ∀ v H1 G1 qs, Ex G G1 → Ext ps qs → St X.K c A1 G1 qs σ H1 → VOk X.K G1 qs v x → Q v H1) : wE X a σ H Q :=
  wE_mono (h G ps σ H S True.intro) fun v H1 ⟨sv, A', e1, G1, qs, e2, x2, S1, r⟩ => by cases e1; exact k v H1 G1 qs e2 x2 S1 r
theorem goT {k : Bool} {Q : Bool → Hp → Prop} (h : STt X c a A (.ok k A1)) (S : St X.K c A G ps σ H) (q : ∀ H1 G1 qs, Ex G G1 → Ext ps qs → St X.K c A1 G1 qs σ H1 → Q k H1) : wT X a σ H Q :=
  wT_mono (h G ps σ H S True.intro) fun b H1 ⟨A', e1, G1, qs, e2, x2, S1⟩ => by cases e1; exact q H1 G1 qs e2 x2 S1
theorem goX {C : Str} {Q : VK} (h : SE X c a A (.ex C A1)) (S : St X.K c A G ps σ H) (x : XOkC X c C A1) : wE X a σ H Q := wE_mono (h G ps σ H S x) fun _ _ q => post_ex q
theorem goXT {C : Str} {Q : Bool → Hp → Prop} (h : STt X c a A (.ex C A1)) (S : St X.K c A G ps σ H) (x : XOkC X c C A1) : wT X a σ H Q := wT_mono (h G ps σ H S x) fun _ _ q => postT_ex q
theorem se_dat {d : PyData} {v : V} (h : PE X e (tC v)) (hd : Fla X.K v d) : SE X c e A (.ok (.dat d) A) := fun G ps σ H S _ => wE_of h (post_of (sv := .dat d) S (hd G))
theorem fl_of {v : V} {d : PyData} (h : Fla X.K v d) : VOk X.K G ps v (.dat d) := h G
theorem se_var {i : Nat} {x : Str} {sv : SV} (hρ : A.ρ[i]? = some sv) (hs : sv ≠ .any) (hs2 : ∀ C, sv ≠ .exc C) (hN : X.N[i]? = some x) (hv : Vis X.env.scope x) (hd : (x == ("__debug__" : Str)) = false) (hcd : (x == ("__classdict__" : Str)) = false) : SE X c (.Name x pos) A (.ok sv A) := fun G ps σ H S _ => by
  have z := S.sl i sv hρ
  cases sv with
  | any => exact absurd rfl hs
  | exc C => exact absurd rfl (hs2 C)
  | dat d => obtain ⟨v, h1, h2⟩ := z; exact wE_of (pe_var hN hv hd hcd) ⟨v, h1, post_of S h2⟩
  | own k => obtain ⟨v, h1, h2⟩ := z; exact wE_of (pe_var hN hv hd hcd) ⟨v, h1, post_of S h2⟩
theorem se_glob {x : Str} {d : PyData} {v : V} {u : Value} (hm : X.mg x = some u) (r : RelV v u) (hd : Fla X.K v d) (hg : Gl X x) (hdb : (x == ("__debug__" : Str)) = false) : SE X c (.Name x pos) A (.ok (.dat d) A) := fun G ps σ H S _ =>
  wE_of (pe_glob hg hm r hdb) (post_of (sv := .dat d) S (hd G))
/-- two operands and an operation on data -/
theorem se_bin {op : Operator} {x y : SV} {d1 d2 r : PyData} (ha : SE X c a A (.ok x A1)) (hb : SE X c b A1 (.ok y A2)) (v1 : viewOf A2.μ x = some d1) (v2 : viewOf A2.μ y = some d2) (hr : binD op d1 d2 = some r) : SE X c (.BinOp a op b pos) A (.ok (.dat r) A2) := fun G ps σ H S _ => by
  obtain ⟨rr, ho, hq⟩ := bin_ok (X := X) hr
  refine wE_of (pe_op ho pe_w pe_w) (go1 ha S fun v H1 G1 qs e1 x1 S1 r1 => go1 hb S1 fun w H2 G2 rs e2 x2 S2 r2 => ?_)
  refine hq _ _ _ _ ((r1.up e2 x2).view S2.hs v1) (r2.view S2.hs v2) fun z hz => ?_
  exact (post_of (sv := .dat r) S2 (hz G2)).up (e1.trans e2) (x1.trans x2)
theorem se_binX {op : Operator} {C : Str} (ha : SE X c a A (.ex C A1)) : SE X c (.BinOp a op b pos) A (.ex C A1) := fun G ps σ H S x => wE_of (pe_op (ho := opF) pe_w (pe_w (X := X))) (goX ha S x)
theorem se_binY {op : Operator} {C : Str} {x : SV} (ha : SE X c a A (.ok x A1)) (hb : SE X c b A1 (.ex C A2)) : SE X c (.BinOp a op b pos) A (.ex C A2) := fun G ps σ H S x =>
  wE_of (pe_op (ho := opF) pe_w pe_w) (go1 ha S fun v H1 G1 qs e1 x1 S1 r1 => goX hb S1 x)
theorem se_cmp {op : CmpOp} {x y : SV} {d1 d2 : PyData} {k : Bool} (hu : X.A.units + 65 < cLine) (ha : SE X c a A (.ok x A1)) (hb : SE X c b A1 (.ok y A2)) (v1 : viewOf A2.μ x = some d1) (v2 : viewOf A2.μ y = some d2) (hr : cmpD op d1 d2 = some k) (hm : behindInMarks op b = false) : SE X c (.Compare a [op] [b] pos) A (.ok (.dat (.bool k)) A2) := fun G ps σ H S _ => by
  obtain ⟨rr, ho, hq⟩ := cmp_ok hu hr
  refine wE_of (pe_cmpR ho pe_w pe_w hm) (go1 ha S fun v H1 G1 qs e1 x1 S1 r1 => go1 hb S1 fun w H2 G2 rs e2 x2 S2 r2 => ?_)
  refine hq _ _ _ _ ((r1.up e2 x2).view S2.hs v1) (r2.view S2.hs v2) fun z hz => ?_
  exact (post_of (sv := .dat (.bool k)) S2 (hz G2)).up (e1.trans e2) (x1.trans x2)
theorem st_cmp {op : CmpOp} {x y : SV} {d1 d2 : PyData} {k : Bool} (hu : X.A.units + 65 < cLine) (ha : SE X c a A (.ok x A1)) (hb : SE X c b A1 (.ok y A2)) (v1 : viewOf A2.μ x = some d1) (v2 : viewOf A2.μ y = some d2) (hr : cmpD op d1 d2 = some k) (hm : behindInMarks op b = false) : STt X c (.Compare a [op] [b] pos) A (.ok k A2) := fun G ps σ H S _ => by
  obtain ⟨rr, ho, hq⟩ := cmp_ok hu hr
  refine wT_of (pt_cmpR ho pe_w pe_w hm) (go1 ha S fun v H1 G1 qs e1 x1 S1 r1 => go1 hb S1 fun w H2 G2 rs e2 x2 S2 r2 => ?_)
  refine hq _ _ _ _ ((r1.up e2 x2).view S2.hs v1) (r2.view S2.hs v2) fun z hz => ?_
  exact ⟨k, dp_bl (hz G2), A2, rfl, G2, rs, e1.trans e2, x1.trans x2, S2⟩
theorem st_cmpX {op : CmpOp} {C : Str} (ha : SE X c a A (.ex C A1)) (hm : behindInMarks op b = false) : STt X c (.Compare a [op] [b] pos) A (.ex C A1) := fun G ps σ H S x => wT_of (pt_cmpR (ho := opF) pe_w (pe_w (X := X)) hm) (goX ha S x)
theorem st_cmpY {op : CmpOp} {C : Str} {x : SV} (ha : SE X c a A (.ok x A1)) (hb : SE X c b A1 (.ex C A2)) (hm : behindInMarks op b = false) : STt X c (.Compare a [op] [b] pos) A (.ex C A2) := fun G ps σ H S x =>
  wT_of (pt_cmpR (ho := opF) pe_w pe_w hm) (go1 ha S fun v H1 G1 qs e1 x1 S1 r1 => goX hb S1 x)
theorem se_cmpX {op : CmpOp} {C : Str} (ha : SE X c a A (.ex C A1)) (hm : behindInMarks op b = false) : SE X c (.Compare a [op] [b] pos) A (.ex C A1) := fun G ps σ H S x => wE_of (pe_cmpR (ho := opF) pe_w (pe_w (X := X)) hm) (goX ha S x)
theorem se_cmpY {op : CmpOp} {C : Str} {x : SV} (ha : SE X c a A (.ok x A1)) (hb : SE X c b A1 (.ex C A2)) (hm : behindInMarks op b = false) : SE X c (.Compare a [op] [b] pos) A (.ex C A2) := fun G ps σ H S x =>
  wE_of (pe_cmpR (ho := opF) pe_w pe_w hm) (go1 ha S fun v H1 G1 qs e1 x1 S1 r1 => goX hb S1 x)
/-- a < b < c -/
theorem st_chn {o1 o2 : CmpOp} {d : Expr} {x y z : SV} {d1 d2 d2' d3 : PyData} {k : Bool} {A3 : AS} (hu : X.A.units + 65 < cLine) (ha : SE X c a A (.ok x A1)) (hb : SE X c b A1 (.ok y A2)) (v1 : viewOf A2.μ x = some d1) (v2 : viewOf A2.μ y = some d2) (hr : cmpD o1 d1 d2 = some true)
    (hd : SE X c d A2 (.ok z A3)) (v2' : viewOf A3.μ y = some d2') (v3 : viewOf A3.μ z = some d3) (hr2 : cmpD o2 d2' d3 = some k) (hm : lastMarks [o1, o2] [b, d] = false) : STt X c (.Compare a [o1, o2] [b, d] pos) A (.ok k A3) := fun G ps σ H S _ => by
  obtain ⟨rr, ho, hq⟩ := cmp_ok hu hr
  obtain ⟨rr2, ho2, hq2⟩ := cmp_ok hu hr2
  refine wT_of (pt_chain ho ho2 pe_w pe_w pe_w hm) (go1 ha S fun v H1 G1 qs e1 x1 S1 r1 => go1 hb S1 fun w H2 G2 rs e2 x2 S2 r2 => ?_)
  refine hq _ _ _ _ ((r1.up e2 x2).view S2.hs v1) (r2.view S2.hs v2) fun u hz => ?_
  refine ⟨true, dp_bl (hz G2), ?_⟩
  rw [if_pos rfl]
  refine go1 hd S2 fun u2 H3 G3 ts e3 x3 S3 r3 => ?_
  refine hq2 _ _ _ _ ((r2.up e3 x3).view S3.hs v2') (r3.view S3.hs v3) fun u3 hz3 => ?_
  exact ⟨k, dp_bl (hz3 G3), A3, rfl, G3, ts, (e1.trans e2).trans e3, (x1.trans x2).trans x3, S3⟩
theorem st_chnF {o1 o2 : CmpOp} {d : Expr} {x y : SV} {d1 d2 : PyData} (hu : X.A.units + 65 < cLine) (ha : SE X c a A (.ok x A1)) (hb : SE X c b A1 (.ok y A2)) (v1 : viewOf A2.μ x = some d1) (v2 : viewOf A2.μ y = some d2) (hr : cmpD o1 d1 d2 = some false)
    (hm : lastMarks [o1, o2] [b, d] = false) : STt X c (.Compare a [o1, o2] [b, d] pos) A (.ok false A2) := fun G ps σ H S _ => by
  obtain ⟨rr, ho, hq⟩ := cmp_ok hu hr
  refine wT_of (pt_chain ho (opF (X := X)) pe_w pe_w (pe_w (e := d)) hm) (go1 ha S fun v H1 G1 qs e1 x1 S1 r1 => go1 hb S1 fun w H2 G2 rs e2 x2 S2 r2 => ?_)
  refine hq _ _ _ _ ((r1.up e2 x2).view S2.hs v1) (r2.view S2.hs v2) fun u hz => ?_
  refine ⟨false, dp_bl (hz G2), ?_⟩
  rw [if_neg Bool.false_ne_true]
  exact ⟨false, rfl, A2, rfl, G2, rs, e1.trans e2, x1.trans x2, S2⟩
theorem se_chn {o1 o2 : CmpOp} {d : Expr} {x y z : SV} {d1 d2 d2' d3 : PyData} {k : Bool} {A3 : AS} (hu : X.A.units + 65 < cLine) (ha : SE X c a A (.ok x A1)) (hb : SE X c b A1 (.ok y A2)) (v1 : viewOf A2.μ x = some d1) (v2 : viewOf A2.μ y = some d2) (hr : cmpD o1 d1 d2 = some true)
    (hd : SE X c d A2 (.ok z A3)) (v2' : viewOf A3.μ y = some d2') (v3 : viewOf A3.μ z = some d3) (hr2 : cmpD o2 d2' d3 = some k) (hm : lastMarks [o1, o2] [b, d] = false) : SE X c (.Compare a [o1, o2] [b, d] pos) A (.ok (.dat (.bool k)) A3) := fun G ps σ H S _ => by
  obtain ⟨rr, ho, hq⟩ := cmp_ok hu hr
  obtain ⟨rr2, ho2, hq2⟩ := cmp_ok hu hr2
  refine wE_of (pe_chain ho ho2 pe_w pe_w pe_w hm) (go1 ha S fun v H1 G1 qs e1 x1 S1 r1 => go1 hb S1 fun w H2 G2 rs e2 x2 S2 r2 => ?_)
  refine hq _ _ _ _ ((r1.up e2 x2).view S2.hs v1) (r2.view S2.hs v2) fun u hz => ?_
  refine ⟨true, dp_bl (hz G2), ?_⟩
  rw [if_pos rfl]
  refine go1 hd S2 fun u2 H3 G3 ts e3 x3 S3 r3 => ?_
  refine hq2 _ _ _ _ ((r2.up e3 x3).view S3.hs v2') (r3.view S3.hs v3) fun u3 hz3 => ?_
  exact (post_of (sv := .dat (.bool k)) S3 (hz3 G3)).up ((e1.trans e2).trans e3) ((x1.trans x2).trans x3)
theorem se_chnF {o1 o2 : CmpOp} {d : Expr} {x y : SV} {d1 d2 : PyData} (hu : X.A.units + 65 < cLine) (ha : SE X c a A (.ok x A1)) (hb : SE X c b A1 (.ok y A2)) (v1 : viewOf A2.μ x = some d1) (v2 : viewOf A2.μ y = some d2) (hr : cmpD o1 d1 d2 = some false)
    (hm : lastMarks [o1, o2] [b, d] = false) : SE X c (.Compare a [o1, o2] [b, d] pos) A (.ok (.dat (.bool false)) A2) := fun G ps σ H S _ => by
  obtain ⟨rr, ho, hq⟩ := cmp_ok hu hr
  refine wE_of (pe_chain ho (opF (X := X)) pe_w pe_w (pe_w (e := d)) hm) (go1 ha S fun v H1 G1 qs e1 x1 S1 r1 => go1 hb S1 fun w H2 G2 rs e2 x2 S2 r2 => ?_)
  refine hq _ _ _ _ ((r1.up e2 x2).view S2.hs v1) (r2.view S2.hs v2) fun u hz => ?_
  refine ⟨false, dp_bl (hz G2), ?_⟩
  rw [if_neg Bool.false_ne_true]
  exact (post_of (sv := .dat (.bool false)) S2 (.bl _)).up (e1.trans e2) (x1.trans x2)
theorem se_un {op : UnaryOp} {x : SV} {d r : PyData} (ha : SE X c a A (.ok x A1)) (v1 : viewOf A1.μ x = some d) (hr : unD op d = some r) : SE X c (.UnaryOp op a pos) A (.ok (.dat r) A1) := fun G ps σ H S _ => by
  obtain ⟨rr, ho, hq⟩ := un_ok (X := X) hr
  refine wE_of (pe_un ho pe_w) (go1 ha S fun v H1 G1 qs e1 x1 S1 r1 => hq _ _ _ (r1.view S1.hs v1) fun z hz => ?_)
  exact (post_of (sv := .dat r) S1 (hz G1)).up e1 x1
theorem unF {f : Value → Sem Value} : UnR X f (fun _ _ _ => False) := fun _ _ _ _ _ _ _ _ _ h => h.elim
theorem se_unX {op : UnaryOp} {C : Str} (ha : SE X c a A (.ex C A1)) : SE X c (.UnaryOp op a pos) A (.ex C A1) := fun G ps σ H S x => wE_of (pe_un (ho := unF) pe_w) (goX ha S x)
/-- truth of a value -/
theorem st_val {x : SV} {d : PyData} {k : Bool} (ha : SE X c a A (.ok x A1)) (v1 : viewOf A1.μ x = some d) (hr : truD d = some k) (he : ∀ whole, isTrue a X.env whole = (do let v ← whole; standAt a.pos; holding [v] (truthy v))) : STt X c a A (.ok k A1) := fun G ps σ H S _ =>
  wT_of (pt_truth pe_w he) (go1 ha S fun v H1 G1 qs e1 x1 S1 r1 => ⟨k, tru_of (r1.view S1.hs v1) hr, A1, rfl, G1, qs, e1, x1, S1⟩)
theorem st_valX {C : Str} (ha : SE X c a A (.ex C A1)) (he : ∀ whole, isTrue a X.env whole = (do let v ← whole; standAt a.pos; holding [v] (truthy v))) : STt X c a A (.ex C A1) := fun G ps σ H S x => wT_of (pt_truth pe_w he) (goX ha S x)
theorem st_not {o : Out Bool} (ha : STt X c a A o) : STt X c (.UnaryOp .Not a pos) A (match o with | .ok k A' => .ok (!k) A' | .ex C A' => .ex C A') := fun G ps σ H S x =>
  wT_of (pt_not pt_w) (wT_mono (ha G ps σ H S (by cases o with | ok k A' => exact True.intro | ex C A' => exact x)) fun k H1 ⟨A', e1, G1, qs, e2, x2, S1⟩ => by
    cases e1; exact ⟨A', rfl, G1, qs, e2, x2, S1⟩)
theorem tru_inv {x : SV} {o : Out Bool} (h : truM x A = some o) : ∃ d k, viewOf A.μ x = some d ∧ truD d = some k ∧ o = .ok k A := by
  obtain ⟨d, h1, h2⟩ := vbind h
  obtain ⟨k, h3, h4⟩ := of_inv h2
  exact ⟨d, k, h1, h3, h4⟩
theorem tbind {β : Type} {x : SV} {f : Bool → M β} {o : Out β} (h : M.bind (truM x) f A = some o) : ∃ d k, viewOf A.μ x = some d ∧ truD d = some k ∧ f k A = some o := by
  rcases bind_inv h with ⟨k, A1, h1, h2⟩ | ⟨C, A1, h1, h2⟩
  · obtain ⟨d, k', e1, e2, e3⟩ := tru_inv h1
    cases e3; exact ⟨d, _, e1, e2, h2⟩
  · obtain ⟨d, k', e1, e2, e3⟩ := tru_inv h1
    cases e3
theorem se_not {x : SV} {d : PyData} {k : Bool} (ha : SE X c a A (.ok x A1)) (v1 : viewOf A1.μ x = some d) (hr : truD d = some k) : SE X c (.UnaryOp .Not a pos) A (.ok (.dat (.bool (!k))) A1) := fun G ps σ H S _ =>
  wE_of (pe_notT pe_w) (go1 ha S fun v H1 G1 qs e1 x1 S1 r1 => ⟨k, tru_of (r1.view S1.hs v1) hr, (post_of (sv := .dat (.bool (!k))) S1 (.bl _)).up e1 x1⟩)
theorem se_notX {C : Str} (ha : SE X c a A (.ex C A1)) : SE X c (.UnaryOp .Not a pos) A (.ex C A1) := fun G ps σ H S x => wE_of (pe_notT pe_w) (goX ha S x)
/-! ### and, or -/
theorem se_and {rest : List Expr} {x : SV} {d : PyData} {k : Bool} (ha : SE X c a A (.ok x A1)) (v1 : viewOf A1.μ x = some d) (hr : truD d = some k) (hb : k = true → SE X c (.BoolOp .And (b :: rest) pos) A1 o) (hf : k = false → o = .ok x A1) : SE X c (.BoolOp .And (a :: b :: rest) pos) A o := fun G ps σ H S xk =>
  wE_of (pe_andT pe_w pe_w) (go1 ha S fun v H1 G1 qs e1 x1 S1 r1 => ⟨k, tru_of (r1.view S1.hs v1) hr, by
    cases k with
    | true => exact wE_mono (hb rfl G1 qs σ H1 S1 xk) fun _ _ q => q.up e1 x1
    | false => rw [hf rfl]; exact (post_of S1 r1).up e1 x1⟩)
theorem se_or {rest : List Expr} {x : SV} {d : PyData} {k : Bool} (ha : SE X c a A (.ok x A1)) (v1 : viewOf A1.μ x = some d) (hr : truD d = some k) (hb : k = false → SE X c (.BoolOp .Or (b :: rest) pos) A1 o) (hf : k = true → o = .ok x A1) : SE X c (.BoolOp .Or (a :: b :: rest) pos) A o := fun G ps σ H S xk =>
  wE_of (pe_orT pe_w pe_w) (go1 ha S fun v H1 G1 qs e1 x1 S1 r1 => ⟨k, tru_of (r1.view S1.hs v1) hr, by
    cases k with
    | false => exact wE_mono (hb rfl G1 qs σ H1 S1 xk) fun _ _ q => q.up e1 x1
    | true => rw [hf rfl]; exact (post_of S1 r1).up e1 x1⟩)
theorem se_andX {rest : List Expr} {C : Str} (ha : SE X c a A (.ex C A1)) : SE X c (.BoolOp .And (a :: b :: rest) pos) A (.ex C A1) := fun G ps σ H S x => wE_of (pe_andT pe_w (pe_w (X := X))) (goX ha S x)
theorem se_orX {rest : List Expr} {C : Str} (ha : SE X c a A (.ex C A1)) : SE X c (.BoolOp .Or (a :: b :: rest) pos) A (.ex C A1) := fun G ps σ H S x => wE_of (pe_orT pe_w (pe_w (X := X))) (goX ha S x)
theorem se_one {op} (ha : SE X c a A o) : SE X c (.BoolOp op [a] pos) A o := fun G ps σ H S x => wE_of (pe_one pe_w) (ha G ps σ H S x)
def SW (X : Cx) (c : Ct) (e : Expr) (A : AS) (o : Out Bool) : Prop := ∀ G ps σ H, St X.K c A G ps σ H → XOk X c o → Eng.wW X e σ H (PostT X c G ps σ o)
theorem sw_st {o : Out Bool} (h : SW X c e A o) : STt X c e A o := fun G ps σ H S x => wT_of (PW.pt Eng.pw_w) (h G ps σ H S x)
theorem sw_one1 {o : Out Bool} (ha : STt X c a A o) : SW X c (.BoolOp .And [a] pos) A o := fun G ps σ H S x => Eng.wW_of (pw_and1 pt_w) (ha G ps σ H S x)
theorem sw_one2 {o : Out Bool} (ha : STt X c a A o) : SW X c (.BoolOp .Or [a] pos) A o := fun G ps σ H S x => Eng.wW_of (pw_or1 pt_w) (ha G ps σ H S x)
theorem sw_and {rest : List Expr} {o : Out Bool} {k : Bool} (ha : STt X c a A (.ok k A1)) (hb : k = true → SW X c (.BoolOp .And (b :: rest) pos) A1 o) (hf : k = false → o = .ok false A1) : SW X c (.BoolOp .And (a :: b :: rest) pos) A o := fun G ps σ H S xk =>
  Eng.wW_of (pw_and pt_w Eng.pw_w) (goT ha S fun H1 G1 qs e1 x1 S1 => by
    cases k with
    | true => exact iteT (Eng.wW_mono (hb rfl G1 qs σ H1 S1 xk) fun _ _ q => q.up e1 x1)
    | false => rw [hf rfl]; exact iteF ⟨A1, rfl, G1, qs, e1, x1, S1⟩)
theorem sw_or {rest : List Expr} {o : Out Bool} {k : Bool} (ha : STt X c a A (.ok k A1)) (hb : k = false → SW X c (.BoolOp .Or (b :: rest) pos) A1 o) (hf : k = true → o = .ok true A1) : SW X c (.BoolOp .Or (a :: b :: rest) pos) A o := fun G ps σ H S xk =>
  Eng.wW_of (pw_or pt_w Eng.pw_w) (goT ha S fun H1 G1 qs e1 x1 S1 => by
    cases k with
    | false => exact iteF (Eng.wW_mono (hb rfl G1 qs σ H1 S1 xk) fun _ _ q => q.up e1 x1)
    | true => rw [hf rfl]; exact iteT ⟨A1, rfl, G1, qs, e1, x1, S1⟩)
theorem sw_andX {rest : List Expr} {C : Str} (ha : STt X c a A (.ex C A1)) : SW X c (.BoolOp .And (a :: b :: rest) pos) A (.ex C A1) := fun G ps σ H S x => Eng.wW_of (pw_and pt_w (Eng.pw_w (X := X))) (goXT ha S x)
theorem sw_orX {rest : List Expr} {C : Str} (ha : STt X c a A (.ex C A1)) : SW X c (.BoolOp .Or (a :: b :: rest) pos) A (.ex C A1) := fun G ps σ H S x => Eng.wW_of (pw_or pt_w (Eng.pw_w (X := X))) (goXT ha S x)
/-! ### a if t else b -/
theorem se_ite {t : Expr} {k : Bool} (ht : STt X c t A (.ok k A1)) (ha : k = true → SE X c a A1 o) (hb : k = false → SE X c b A1 o) : SE X c (.IfExp t a b pos) A o := fun G ps σ H S xk =>
  wE_of (pe_ifExp pt_w pe_w pe_w) (goT ht S fun H1 G1 qs e1 x1 S1 => by
    cases k with
    | true => exact iteT (wE_mono (ha rfl G1 qs σ H1 S1 xk) fun _ _ q => q.up e1 x1)
    | false => exact iteF (wE_mono (hb rfl G1 qs σ H1 S1 xk) fun _ _ q => q.up e1 x1))
theorem se_iteX {t : Expr} {C : Str} (ht : STt X c t A (.ex C A1)) : SE X c (.IfExp t a b pos) A (.ex C A1) := fun G ps σ H S x => wE_of (pe_ifExp pt_w (pe_w (X := X)) (pe_w (X := X))) (goXT ht S x)
/-! ### arguments -/
theorem sa_nil : SA X c [] A (.ok [] A) := fun G ps σ H S _ => wA_of pa_nil ⟨[], A, rfl, G, ps, Ex.refl _, Ext.refl _, S, True.intro⟩
theorem sa_cons {x : SV} {oa : Out (List SV)} (ha : SE X c e A (.ok x A1)) (hb : SA X c es A1 oa) (hs : starEach (e :: es) X.env = (false, eval e X.env) :: starEach es X.env) : SA X c (e :: es) A (match oa with | .ok ss A' => .ok (x :: ss) A' | .ex C A' => .ex C A') := fun G ps σ H S xk =>
  wA_of (pa_cons pe_w pa_w hs) (go1 ha S fun v H1 G1 qs e1 x1 S1 r1 => wA_mono (hb G1 qs σ H1 S1 (by cases oa with | ok ss A' => exact True.intro | ex C A' => exact xk)) fun vs H2 ⟨ss, A', e2, G2, rs, e3, x3, S2, r2⟩ => by
    cases e2; exact ⟨_, A', rfl, G2, rs, e1.trans e3, x1.trans x3, S2, r1.up e3 x3, r2⟩)
theorem sa_consX {C : Str} (ha : SE X c e A (.ex C A1)) (hs : starEach (e :: es) X.env = (false, eval e X.env) :: starEach es X.env) : SA X c (e :: es) A (.ex C A1) := fun G ps σ H S x => wA_of (pa_cons pe_w (pa_w (X := X)) hs) (goX ha S x)
/-! ### data of several values -/
theorem ext_own {k : Nat} (h : HS X.K c A.μ G ps H) : c.own.length ≤ ps.length := by
  obtain ⟨t, e⟩ := h.pre
  rw [e, List.length_append]; omega
theorem toD_ok {x : SV} {od : Out PyData} {v : V} (S : St X.K c A G ps σ H) (r : VOk X.K G ps v x) (h : toD c.own.length x A = some od) : ∃ d A', od = .ok d A' ∧ ∃ G', Ex G G' ∧ St X.K c A' G' ps σ H ∧ Dp X.K G' v d := by
  cases x with
  | any => cases h
  | exc C => cases h
  | dat d =>
    have e : od = .ok d A := (Option.some.inj h).symm
    exact ⟨d, A, e, G, Ex.refl _, S, r⟩
  | own k =>
    unfold toD at h
    dsimp only at h
    split at h
    · rename_i ds hm
      split at h
      · rename_i hk
        obtain ⟨G', e, S', p, hp, hd⟩ := S.freeze hm hk
        obtain ⟨q, hq, rfl⟩ := r
        rw [hp] at hq
        cases hq
        exact ⟨_, _, (Option.some.inj h).symm, G', e, S', hd⟩
      · cases h
    · cases h
theorem frz_own {k j : Nat} {d : PyData} : frzV k d (.own j) = if j = k then .dat d else .own j := rfl
end
end Py

set_option Elab.async false
set_option linter.all false
set_option maxRecDepth 100000
set_option maxHeartbeats 2000000
/-! PyE: displays, subscripts, built-ins. -/
namespace Py
open PySem PySem.Spec PyProof.Rows L2
open Evl (Ex)
open Eng (dp_up dp_upAll dall_len dall_get dall_getV dall_app dall_set dp_int dp_str dp_bl dp_non dp_list dp_tup wE wT wA wS wB pe_w pt_w pa_w ps_w pss_w wE_of wT_of wA_of wS_of wB_of wE_mono wT_mono wA_mono)
section
variable {X : Cx} {c : Ct} {A A1 A2 : AS} {a b e : Expr} {es : List Expr} {pos p : Pos} {o : Out SV} {G G1 : Hp} {ps qs : List Addr} {σ : L2.St} {H H1 : Hp}
theorem toDs_ok : ∀ {ss : List SV} {vs : List V} {A : AS} {G : Hp} {od : Out (List PyData)}, St X.K c A G ps σ H → VsOk X.K G ps vs ss → toDs c.own.length ss A = some od → ∃ ds A', od = .ok ds A' ∧ ∃ G', Ex G G' ∧ St X.K c A' G' ps σ H ∧ DpAll X.K G' vs ds
  | [], [], A, G, od, S, _, h => ⟨[], A, ret_inv h, G, Ex.refl _, S, .nil⟩
  | s :: ss, v :: vs, A, G, od, S, ⟨r, rs⟩, h => by
    unfold toDs at h
    rcases bind_inv h with ⟨d, A1, h1, h2⟩ | ⟨C, A1, h1, h2⟩
    · obtain ⟨d', A', e1, G1, e2, S1, r1⟩ := toD_ok S r h1
      cases e1
      rcases bind_inv h2 with ⟨ds, A2, h3, h4⟩ | ⟨C, A2, h3, h4⟩
      · obtain ⟨ds', A'', e3, G2, e4, S2, r2⟩ := toDs_ok S1 (rs.up e2 (Ext.refl _)) h3
        cases e3
        exact ⟨_, _, ret_inv h4, G2, e2.trans e4, S2, .cons (dp_up e4 _ r1) r2⟩
      · obtain ⟨ds', A'', e3, _⟩ := toDs_ok S1 (rs.up e2 (Ext.refl _)) h3
        cases e3
    · obtain ⟨d', A', e1, _⟩ := toD_ok S r h1
      cases e1
theorem views_ok : ∀ {ss : List SV} {vs : List V} {od : Out (List PyData)}, St X.K c A G ps σ H → VsOk X.K G ps vs ss → views ss A = some od → ∃ ds, od = .ok ds A ∧ DpAll X.K H vs ds
  | [], [], od, S, _, h => ⟨[], ret_inv h, .nil⟩
  | s :: ss, v :: vs, od, S, ⟨r, rs⟩, h => by
    unfold views at h
    obtain ⟨d, h1, h2⟩ := vbind h
    rcases bind_inv h2 with ⟨ds, A2, h3, h4⟩ | ⟨C, A2, h3, h4⟩
    · obtain ⟨ds', e3, r2⟩ := views_ok S rs h3
      cases e3
      exact ⟨_, ret_inv h4, .cons (r.view S.hs h1) r2⟩
    · obtain ⟨ds', e3, _⟩ := views_ok S rs h3
      cases e3
theorem sz_of {n : Nat} (h : n ≤ 1000000) : n ≤ sizeLine := Nat.le_trans h (by decide)
/-- a new list: data, or a node -/
theorem alloc_ok {fr : Bool} {ds : List PyData} {xs : List V} {o : Out SV} {p : Addr} (S : St X.K c A G ps σ H) (hd : DpAll X.K G xs ds) (h : alloc fr ds A = some o) (hp : H p = none) : xs.length ≤ sizeLine ∧ Post X c G ps σ o (.ref p) (upd H p (.lst xs)) := by
  unfold alloc at h
  split at h
  · rename_i hz
    refine ⟨by rw [dall_len hd]; exact sz_of hz, ?_⟩
    split at h
    · cases h
      have k : HS X.K c (A.μ ++ [.lst ds]) G (ps ++ [p]) (upd H p (.lst xs)) := S.hs.lay hp ⟨(S.hs.n0 hp).2.2.2, xs, upd_same, hd⟩
      exact ⟨_, _, rfl, G, ps ++ [p], Ex.refl _, ⟨[p], rfl⟩, S.on (Ex.refl _) ⟨[p], rfl⟩ k, ⟨p, by rw [← S.hs.mlen]; simp, rfl⟩⟩
    · cases h
      obtain ⟨k, e⟩ := S.hs.newD (o := .lst xs) hp
      exact ⟨_, _, rfl, _, ps, e, Ext.refl _, S.on e (Ext.refl _) k, (.lst (.inl (.inl upd_same)) (dp_upAll e _ hd) : Dp _ _ _ _)⟩
  · cases h
theorem alloc_len {fr : Bool} {ds : List PyData} {o : Out SV} (h : alloc fr ds A = some o) : ds.length ≤ 1000000 := by
  unfold alloc at h
  split at h
  · assumption
  · cases h
theorem se_lst {fr : Bool} {ss : List SV} {ds : List PyData} (ha : SA X c es A (.ok ss A1)) (hd : toDs c.own.length ss A1 = some (.ok ds A2)) (h : alloc fr ds A2 = some o) : SE X c (.List es pos) A o := fun G ps σ H S xk =>
  wE_of (pe_lst pa_w) (wA_mono (ha G ps σ H S True.intro) fun vs H1 ⟨ss', A', e1, G1, qs, e2, x2, S1, r1⟩ => by
    cases e1
    obtain ⟨ds', A'', e3, G2, e4, S2, r2⟩ := toDs_ok S1 r1 hd
    cases e3
    refine ⟨by rw [dall_len r2]; exact sz_of (alloc_len h), fun p hp => ?_⟩
    exact (alloc_ok S2 r2 h hp).2.up (e2.trans e4) x2)
theorem se_lstX {C : Str} (ha : SA X c es A (.ex C A1)) : SE X c (.List es pos) A (.ex C A1) := fun G ps σ H S x => wE_of (pe_lst pa_w) (wA_mono (ha G ps σ H S x) fun _ _ q => postA_ex q)
theorem se_tup {x1} {ss : List SV} {ds : List PyData} (ha : SA X c es A (.ok ss A1)) (hd : toDs c.own.length ss A1 = some (.ok ds A2)) (hz : ds.length ≤ 1000000) : SE X c (.Tuple es x1 pos) A (.ok (.dat (.tuple ds)) A2) := fun G ps σ H S xk =>
  wE_of (pe_tup pa_w) (wA_mono (ha G ps σ H S True.intro) fun vs H1 ⟨ss', A', e1, G1, qs, e2, x2, S1, r1⟩ => by
    cases e1
    obtain ⟨ds', A'', e3, G2, e4, S2, r2⟩ := toDs_ok S1 r1 hd
    cases e3
    refine ⟨by rw [dall_len r2]; exact sz_of hz, fun p hp => ?_⟩
    obtain ⟨k, e⟩ := S2.hs.newD (o := .tup vs) hp
    exact ⟨_, _, rfl, _, qs, (e2.trans e4).trans e, x2, S2.on e (Ext.refl _) k, (.tup (.inl (.inl upd_same)) (dp_upAll e _ r2) : Dp _ _ _ _)⟩)
theorem se_tupX {x1} {C : Str} (ha : SA X c es A (.ex C A1)) : SE X c (.Tuple es x1 pos) A (.ex C A1) := fun G ps σ H S x => wE_of (pe_tup pa_w) (wA_mono (ha G ps σ H S x) fun _ _ q => postA_ex q)
/-! ### subscripts -/
theorem Post.dat {d : PyData} {v : V} (S : St X.K c A G ps σ H) (r : Dp X.K G v d) : Post X c G ps σ (.ok (.dat d) A) v H := post_of (sv := .dat d) S r
/-- an item of what is seen: it stood still, or is an item of a list of data -/
theorem item_still {x : SV} {d1 d : PyData} {v : V} {i : Int} (S : St X.K c A G ps σ H) (r : VOk X.K G ps v x) (v1 : viewOf A.μ x = some d1) (h : ixD d1 (.int i) = some d) :
    (∃ p xs w, v = .ref p ∧ (SqL X.K H p xs ∨ SqT X.K H p xs) ∧ atI xs i = some w ∧ Dp X.K G w d ∧ ((∃ ds, d1 = .list ds ∧ SqL X.K H p xs) ∨ (∃ ds, d1 = .tuple ds ∧ SqT X.K H p xs))) ∨ (∃ z k, d1 = .str z ∧ v = .str z ∧ z.length ≤ 100000 ∧ atI z.cps.toList i = some k ∧ d = .str ⟨#[k]⟩) := by
  cases x with
  | any => cases v1
  | exc C => cases v1
  | own k =>
    obtain ⟨p, hk, rfl⟩ := r
    unfold viewOf at v1
    dsimp only at v1
    split at v1
    · cases v1
      rename_i ds hm
      obtain ⟨g, xs, hx, hd⟩ := S.hs.mu k p _ hk hm
      obtain ⟨w, hw, rw'⟩ := at_ok hd h
      exact .inl ⟨p, xs, w, rfl, .inl (.inl (.inl hx)), hw, rw', .inl ⟨ds, rfl, .inl (.inl hx)⟩⟩
    · cases v1
  | dat d0 =>
    have e0 : d0 = d1 := Option.some.inj v1
    subst e0
    unfold ixD at h
    dsimp only at h
    split at h
    · obtain ⟨p, xs, rfl, hs, ha⟩ := dp_list r
      obtain ⟨w, hw, rw'⟩ := at_ok ha h
      exact .inl ⟨p, xs, w, rfl, .inl (Evl.ex_l S.hs.sub hs), hw, rw', .inl ⟨_, rfl, Evl.ex_l S.hs.sub hs⟩⟩
    · obtain ⟨p, xs, rfl, hs, ha⟩ := dp_tup r
      obtain ⟨w, hw, rw'⟩ := at_ok ha h
      exact .inl ⟨p, xs, w, rfl, .inr (Evl.ex_t S.hs.sub hs), hw, rw', .inr ⟨_, rfl, Evl.ex_t S.hs.sub hs⟩⟩
    · split at h
      · rename_i z hz
        cases q : atI z.cps.toList i with
        | none => rw [q] at h; cases h
        | some k => rw [q] at h; exact .inr ⟨z, k, rfl, dp_str r, hz, q, (Option.some.inj h).symm⟩
      · cases h
    · cases h
theorem ix_int {d1 d2 d : PyData} (h : ixD d1 d2 = some d) : ∃ i, d2 = .int i := by
  unfold ixD at h
  split at h
  · exact ⟨_, rfl⟩
  · cases h
theorem se_idx {x y : SV} {d1 d2 d : PyData} (ha : SE X c a A (.ok x A1)) (hb : SE X c b A1 (.ok y A2)) (v1 : viewOf A2.μ x = some d1) (v2 : viewOf A2.μ y = some d2) (hr : ixD d1 d2 = some d) (hp : PlainIx b) : SE X c (.Subscript a b pos) A (.ok (.dat d) A2) := fun G ps σ H S _ =>
  wE_of (pe_ix (IxR.or (IxR.or ix_list ix_tup) ix_str) pe_w pe_w hp) (go1 ha S fun v H1 G1 qs e1 x1 S1 r1 => go1 hb S1 fun w H2 G2 rs e2 x2 S2 r2 => by
    obtain ⟨i, rfl⟩ := ix_int hr
    have hw : w = .int i := dp_int (r2.view S2.hs v2)
    subst hw
    rcases item_still S2 (r1.up e2 x2) v1 hr with ⟨p, xs, z, rfl, _, hz, rz, ⟨ds, _, hs⟩ | ⟨ds, _, hs⟩⟩ | ⟨z, k, _, rfl, hz, hk, rfl⟩
    · exact .inl (.inl ⟨p, xs, i, z, rfl, rfl, hs, hz, (Post.dat S2 rz).up (e1.trans e2) (x1.trans x2)⟩)
    · exact .inl (.inr ⟨p, xs, i, z, rfl, rfl, hs, hz, (Post.dat S2 rz).up (e1.trans e2) (x1.trans x2)⟩)
    · exact .inr ⟨z, i, k, rfl, rfl, Evl.sz_of hz, hk, (Post.dat S2 (.str _)).up (e1.trans e2) (x1.trans x2)⟩)
theorem se_idxX {C : Str} (ha : SE X c a A (.ex C A1)) (hp : PlainIx b) : SE X c (.Subscript a b pos) A (.ex C A1) := fun G ps σ H S x => wE_of (pe_ix (ix_list (X := X)) pe_w (pe_w (X := X)) hp) (goX ha S x)
theorem se_idxY {C : Str} {x : SV} (ha : SE X c a A (.ok x A1)) (hb : SE X c b A1 (.ex C A2)) (hp : PlainIx b) : SE X c (.Subscript a b pos) A (.ex C A2) := fun G ps σ H S x =>
  wE_of (pe_ix (ix_list (X := X)) pe_w pe_w hp) (go1 ha S fun v H1 G1 qs e1 x1 S1 r1 => goX hb S1 x)
theorem plainIx (b : Expr) (h : match b with | .Slice .. => False | _ => True) : PlainIx b := fun o i => by
  cases b <;> first | rfl | exact h.elim
/-! ### built-ins -/
theorem pe_bi {f : Bf} {r : List V → Hp → VK → Prop} {t : TA} (hc : CallR X (bfVal f) r) (hg : Gl X (bfName f)) (hm : X.mg (bfName f) = none) (ha : PA X (e :: es) t)
    (he : starEach (e :: es) X.env = (false, eval e X.env) :: starEach es X.env) (hpl : (backTo pos (starEach es X.env)).any (·.1) = false) : PE X (.Call (.Name (bfName f) p) (e :: es) [] pos) (tCB r t) := by
  cases f with
  | len => exact pe_callB (id := "len") hc hg hm (by decide +kernel) ha (by decide) (by decide) he hpl
  | abs => exact pe_callB (id := "abs") hc hg hm (by decide +kernel) ha (by decide) (by decide) he hpl
  | min => exact pe_callB (id := "min") hc hg hm (by decide +kernel) ha (by decide) (by decide) he hpl
  | max => exact pe_callB (id := "max") hc hg hm (by decide +kernel) ha (by decide) (by decide) he hpl
  | sum => exact pe_callB (id := "sum") hc hg hm (by decide +kernel) ha (by decide) (by decide) he hpl
  | any => exact pe_callB (id := "any") hc hg hm (by decide +kernel) ha (by decide) (by decide) he hpl
  | all => exact pe_callB (id := "all") hc hg hm (by decide +kernel) ha (by decide) (by decide) he hpl
  | sorted => exact pe_callB (id := "sorted") hc hg hm (by decide +kernel) ha (by decide) (by decide) he hpl
  | int => exact pe_callTy (T := "int") hc hg hm (by decide +kernel) ha (by decide) (by decide) he hpl
  | list => exact pe_callTy (T := "list") hc hg hm (by decide +kernel) ha (by decide) (by decide) he hpl
  | tuple => exact pe_callTy (T := "tuple") hc hg hm (by decide +kernel) ha (by decide) (by decide) he hpl
/-- data in a view that holds no reference of its own, or items that stood still -/
theorem still_of {x : SV} {d1 : PyData} {es : List PyData} {v : V} (S : St X.K c A G ps σ H) (r : VOk X.K G ps v x) (v1 : viewOf A.μ x = some d1) (h : d1 = .list es ∨ d1 = .tuple es) : ∃ p xs, v = .ref p ∧ ((d1 = .list es ∧ SqL X.K H p xs) ∨ (d1 = .tuple es ∧ SqT X.K H p xs)) ∧ DpAll X.K G xs es := by
  cases x with
  | any => cases v1
  | exc C => cases v1
  | own k =>
    obtain ⟨p, hk, rfl⟩ := r
    unfold viewOf at v1
    dsimp only at v1
    split at v1
    · cases v1
      rename_i ds hm
      obtain ⟨g, xs, hx, hd⟩ := S.hs.mu k p _ hk hm
      rcases h with h | h
      · cases h; exact ⟨p, xs, rfl, .inl ⟨rfl, .inl (.inl hx)⟩, hd⟩
      · cases h
    · cases v1
  | dat d0 =>
    have e0 : d0 = d1 := Option.some.inj v1
    subst e0
    rcases h with h | h
    · subst h
      obtain ⟨p, xs, rfl, hs, ha⟩ := dp_list r
      exact ⟨p, xs, rfl, .inl ⟨rfl, Evl.ex_l S.hs.sub hs⟩, ha⟩
    · subst h
      obtain ⟨p, xs, rfl, hs, ha⟩ := dp_tup r
      exact ⟨p, xs, rfl, .inr ⟨rfl, Evl.ex_t S.hs.sub hs⟩, ha⟩
theorem se_biF {f : Bf} {ss : List SV} {ds : List PyData} {d : PyData} (hc : X.calm = true) (ha : SA X c (e :: es) A (.ok ss A1)) (hv : views ss A1 = some (.ok ds A1)) (h : biF f ds = some d) (hg : Gl X (bfName f)) (hm : X.mg (bfName f) = none)
    (he : starEach (e :: es) X.env = (false, eval e X.env) :: starEach es X.env) (hpl : (backTo pos (starEach es X.env)).any (·.1) = false) : SE X c (.Call (.Name (bfName f) p) (e :: es) [] pos) A (.ok (.dat d) A1) := fun G ps σ H S _ => by
  obtain ⟨rr, ho, hq⟩ := biF_ok hc h
  refine wE_of (pe_bi ho hg hm pa_w he hpl) (wA_mono (ha G ps σ H S True.intro) fun vs H1 ⟨ss', A', e1, G1, qs, e2, x2, S1, r1⟩ => ?_)
  cases e1
  obtain ⟨ds', e3, r2⟩ := views_ok S1 r1 hv
  cases e3
  exact hq vs H1 _ r2 fun v hv => (Post.dat S1 (hv G1)).up e2 x2
theorem se_biX {f : Bf} {C : Str} (ha : SA X c (e :: es) A (.ex C A1)) (hg : Gl X (bfName f)) (hm : X.mg (bfName f) = none)
    (he : starEach (e :: es) X.env = (false, eval e X.env) :: starEach es X.env) (hpl : (backTo pos (starEach es X.env)).any (·.1) = false) : SE X c (.Call (.Name (bfName f) p) (e :: es) [] pos) A (.ex C A1) := fun G ps σ H S x =>
  wE_of (pe_bi (r := fun _ _ _ => False) (fun _ _ _ _ _ _ _ _ _ h => h.elim) hg hm pa_w he hpl) (wA_mono (ha G ps σ H S x) fun _ _ q => postA_ex q)
theorem views1 {ss : List SV} {d1 : PyData} (h : views ss A = some (.ok [d1] A)) : ∃ x, ss = [x] ∧ viewOf A.μ x = some d1 := by
  cases ss with
  | nil => cases (ret_inv h)
  | cons s ss =>
    unfold views at h
    obtain ⟨d, h1, h2⟩ := vbind h
    rcases bind_inv h2 with ⟨ds, A2, h3, h4⟩ | ⟨C, A2, h3, h4⟩
    · have e := ret_inv h4
      cases e
      cases ss with
      | nil => exact ⟨s, rfl, h1⟩
      | cons s2 ss =>
        unfold views at h3
        obtain ⟨d', h5, h6⟩ := vbind h3
        rcases bind_inv h6 with ⟨ds', A3, h7, h8⟩ | ⟨C, A3, h7, h8⟩
        · cases (ret_inv h8)
        · cases h8
    · cases h4
theorem biL_one {f : Bf} {ds es : List PyData} (h : biL f ds = some es) : ∃ d1, ds = [d1] := by
  unfold biL at h
  split at h
  · split at h
    · exact ⟨_, rfl⟩
    · exact ⟨_, rfl⟩
    · cases h
  · split at h
    · exact ⟨_, rfl⟩
    · cases h
  · cases h
theorem se_biL {f : Bf} {ss : List SV} {ds es' : List PyData} {fr : Bool} (ha : SA X c (e :: es) A (.ok ss A1)) (hv : views ss A1 = some (.ok ds A1)) (h : biL f ds = some es') (ho : alloc fr es' A1 = some o) (hg : Gl X (bfName f)) (hm : X.mg (bfName f) = none)
    (he : starEach (e :: es) X.env = (false, eval e X.env) :: starEach es X.env) (hpl : (backTo pos (starEach es X.env)).any (·.1) = false) : SE X c (.Call (.Name (bfName f) p) (e :: es) [] pos) A o := fun G ps σ H S _ => by
  obtain ⟨d1, rfl⟩ := biL_one h
  obtain ⟨x, rfl, hx⟩ := views1 hv
  have one : ∀ {G1 qs vs}, VsOk X.K G1 qs vs [x] → ∃ v, vs = [v] ∧ VOk X.K G1 qs v x := fun {G1 qs vs} r => by
    match vs, r with
    | [v], ⟨r, _⟩ => exact ⟨v, rfl, r⟩
  unfold biL at h
  split at h
  · have h2 : ∃ l, (d1 = .list l ∨ d1 = .tuple l) ∧ es' = l := by
      split at h
      · rename_i q; cases q; exact ⟨_, .inl rfl, (Option.some.inj h).symm⟩
      · rename_i q; cases q; exact ⟨_, .inr rfl, (Option.some.inj h).symm⟩
      · cases h
    obtain ⟨l, hl, rfl⟩ := h2
    refine wE_of (pe_bi (f := .list) call_list_of hg hm pa_w he hpl) (wA_mono (ha G ps σ H S True.intro) fun vs H1 ⟨ss', A', e1, G1, qs, e2, x2, S1, r1⟩ => ?_)
    cases e1
    obtain ⟨v, rfl, r9⟩ := one r1
    obtain ⟨p, xs, rfl, hs, hd⟩ := still_of S1 r9 hx hl
    exact ⟨p, xs, rfl, hs.imp (·.2) (·.2), fun q hq => (alloc_ok S1 hd ho hq).2.up e2 x2⟩
  · have h2 : ∃ is : List Int, d1 = .list (is.map .int) ∧ es' = (sortI is).map .int := by
      split at h
      · rename_i l q
        cases q
        cases hi : intsD l with
        | none => rw [hi] at h; cases h
        | some is => rw [hi] at h; exact ⟨is, by rw [ints_of hi], (Option.some.inj h).symm⟩
      · cases h
    obtain ⟨is, rfl, rfl⟩ := h2
    refine wE_of (pe_bi (f := .sorted) cr_sortedI hg hm pa_w he hpl) (wA_mono (ha G ps σ H S True.intro) fun vs H1 ⟨ss', A', e1, G1, qs, e2, x2, S1, r1⟩ => ?_)
    cases e1
    obtain ⟨v, rfl, r9⟩ := one r1
    obtain ⟨p, xs, rfl, hs, hd⟩ := still_of S1 r9 hx (.inl rfl)
    rw [dall_ints_inv hd] at hs
    have hs' : SqL X.K H1 p (is.map V.int) := by
      rcases hs with ⟨_, hs⟩ | ⟨z, _⟩
      · exact hs
      · cases z
    refine ⟨p, is, rfl, hs', fun ns' q perm rising hn => ?_⟩
    rw [sorted_uniq (perm.trans (sortI_perm is).symm) rising (sortI_sorted is)]
    exact (alloc_ok S1 dall_ints ho hn).2.up e2 x2
  · cases h
theorem se_biT {f : Bf} {ss : List SV} {ds es' : List PyData} (ha : SA X c (e :: es) A (.ok ss A1)) (hv : views ss A1 = some (.ok ds A1)) (h : biT f ds = some es') (hg : Gl X (bfName f)) (hm : X.mg (bfName f) = none)
    (he : starEach (e :: es) X.env = (false, eval e X.env) :: starEach es X.env) (hpl : (backTo pos (starEach es X.env)).any (·.1) = false) : SE X c (.Call (.Name (bfName f) p) (e :: es) [] pos) A (.ok (.dat (.tuple es')) A1) := fun G ps σ H S _ => by
  unfold biT at h
  split at h
  · split at h
    · cases h
      obtain ⟨x, rfl, hx⟩ := views1 hv
      refine wE_of (pe_bi (f := .tuple) call_tuple_of hg hm pa_w he hpl) (wA_mono (ha G ps σ H S True.intro) fun vs H1 ⟨ss', A', e1, G1, qs, e2, x2, S1, r1⟩ => ?_)
      cases e1
      match vs, r1 with
      | [v], ⟨r1, _⟩ =>
        obtain ⟨p, xs, rfl, hs, hd⟩ := still_of S1 r1 hx (.inl rfl)
        have hs' : SqL X.K H1 p xs := by
          rcases hs with ⟨_, hs⟩ | ⟨z, _⟩
          · exact hs
          · cases z
        refine ⟨p, xs, rfl, .inl ⟨hs', fun q hq => ?_⟩⟩
        obtain ⟨k, e⟩ := S1.hs.newD (o := .tup xs) hq
        exact ⟨_, _, rfl, _, qs, e2.trans e, x2, S1.on e (Ext.refl _) k, (.tup (.inl (.inl upd_same)) (dp_upAll e _ hd) : Dp _ _ _ _)⟩
    · cases h
  · cases h
/-- sorted(x, reverse=True) of ints -/
theorem se_sortr {x : SV} {is : List Int} {k : Nat} {kp kpos : Pos} {fr : Bool} (hm : X.mg "sorted" = none) (ha : SE X c a A (.ok x A1)) (v1 : viewOf A1.μ x = some (.list (is.map .int))) (hg : Gl X "sorted") (hc : X.calm = true) (ho : alloc fr ((sortI is).reverse.map .int) A1 = some o) (hs : starEach [a] X.env = (false, eval a X.env) :: starEach [] X.env) :
    SE X c (.Call (.Name "sorted" p) [a] [⟨some "reverse", .Constant (.bool true) k kp, kpos⟩] pos) A o := fun G ps σ H S _ =>
  wE_of (pe_callBK (cr_sortedRev (b := true)) hg hm boot_sorted (pa_cons pe_w pa_nil hs) (pk_cons pe_bl pk_nil) (by decide) (by decide) (by rw [hs]; rfl) (by rw [hs]; rfl) rfl rfl (by rfl)) (go1 ha S fun v H1 G1 qs e1 x1 S1 r1 => by
    obtain ⟨p, xs, rfl, hs, hd⟩ := still_of S1 r1 v1 (.inl rfl)
    rw [dall_ints_inv hd] at hs
    have hs' : SqL X.K H1 p (is.map V.int) := by
      rcases hs with ⟨_, hs⟩ | ⟨z, _⟩
      · exact hs
      · cases z
    refine ⟨p, is, rfl, rfl, hs', fun ns' l z1 z2 hl => ?_⟩
    have e : ns' = (sortI is).reverse := by
      have z3 : ns'.reverse.Pairwise (· ≤ ·) := List.pairwise_reverse.mpr z2
      rw [← sorted_uniq (((List.reverse_perm ns').trans z1).trans (sortI_perm is).symm) z3 (sortI_sorted is), List.reverse_reverse]
    subst e
    exact (alloc_ok S1 dall_ints ho hl).2.up e1 x1)
/-! ### slices, isinstance -/
theorem se_slc {lo hi : Option Expr} {p2 : Pos} {x : SV} {ds : List PyData} {l u : Option Int} {A3 : AS} (ha : SE X c a A (.ok x A1))
    (hlo : ∀ G ps σ H, St X.K c A1 G ps σ H → Eng.wO X lo σ H fun o H' => o = l ∧ ∃ G' qs, Ex G G' ∧ Ext ps qs ∧ St X.K c A2 G' qs σ H') (hhi : ∀ G ps σ H, St X.K c A2 G ps σ H → Eng.wO X hi σ H fun o H' => o = u ∧ ∃ G' qs, Ex G G' ∧ Ext ps qs ∧ St X.K c A3 G' qs σ H')
    (v1 : viewOf A3.μ x = some (.list ds)) : SE X c (.Subscript a (.Slice lo hi none p2) pos) A (.ok (.dat (.list (cutD ds l u))) A3) := fun G ps σ H S _ => by
  have po : ∀ e : Option Expr, ∃ t, PO X e t ∧ ∀ σ H Q, Eng.wO X e σ H Q → t σ H Q := fun e => by
    cases e with
    | none => exact ⟨_, po_none, fun _ _ _ h => h⟩
    | some x => exact ⟨_, po_some pe_w, fun _ _ _ h => h⟩
  have wOm : ∀ (e : Option Expr) σ H (Q Q' : Option Int → Hp → Prop), Eng.wO X e σ H Q → (∀ o H', Q o H' → Q' o H') → Eng.wO X e σ H Q' := fun e σ H Q Q' w k => by
    cases e with
    | none => exact k _ _ w
    | some x => exact wE_mono w fun v H' ⟨i, e1, q⟩ => ⟨i, e1, k _ _ q⟩
  obtain ⟨tl, hl, kl⟩ := po lo
  obtain ⟨th, hh, kh⟩ := po hi
  refine wE_of (pe_slice sl_list pe_w hl hh) (go1 ha S fun v H1 G1 qs e1 x1 S1 r1 => ?_)
  refine kl _ _ _ (wOm _ _ _ _ _ (hlo G1 qs σ H1 S1) fun o2 H2 ⟨eo, G2, rs, e2, x2, S2⟩ => ?_)
  refine kh _ _ _ (wOm _ _ _ _ _ (hhi G2 rs σ H2 S2) fun o3 H3 ⟨eu, G3, ts, e3, x3, S3⟩ => ?_)
  subst eo; subst eu
  obtain ⟨p, xs, rfl, hs, hd⟩ := still_of S3 (r1.up (e2.trans e3) (x2.trans x3)) v1 (.inl rfl)
  have hs' : SqL X.K H3 p xs := by
    rcases hs with ⟨_, hs⟩ | ⟨z, _⟩
    · exact hs
    · cases z
  refine ⟨p, xs, rfl, hs', fun q hq => ?_⟩
  obtain ⟨k, e⟩ := S3.hs.newD (o := .lst (cutV xs _ _)) hq
  have cut : DpAll X.K G3 (cutV xs o2 o3) (cutD ds o2 o3) := by
    unfold cutV cutD
    rw [dall_len hd]
    exact Eng.dall_take _ (Eng.dall_drop _ hd)
  exact (Post.dat (S3.on e (Ext.refl _) k) (.lst (.inl (.inl upd_same)) (dp_upAll e _ cut))).up (e1.trans (e2.trans (e3.trans e))) (x1.trans (x2.trans x3))
theorem wo_none : ∀ G ps σ H, St X.K c A G ps σ H → Eng.wO X none σ H fun o H' => o = none ∧ ∃ G' qs, Ex G G' ∧ Ext ps qs ∧ St X.K c A G' qs σ H' := fun G ps σ H S => ⟨rfl, G, ps, Ex.refl _, Ext.refl _, S⟩
theorem wo_some {x : SV} {i : Int} (ha : SE X c a A (.ok x A1)) (v1 : viewOf A1.μ x = some (.int i)) : ∀ G ps σ H, St X.K c A G ps σ H → Eng.wO X (some a) σ H fun o H' => o = some i ∧ ∃ G' qs, Ex G G' ∧ Ext ps qs ∧ St X.K c A1 G' qs σ H' := fun G ps σ H S =>
  go1 ha S fun v H1 G1 qs e1 x1 S1 r1 => ⟨i, dp_int (r1.view S1.hs v1), rfl, G1, qs, e1, x1, S1⟩
theorem tyX_of {v : V} {d : PyData} {T : String} (h : Dp X.K H v d) (t : tyD d = some T) : TyX X.K H v (.type T) := by
  cases h with
  | non => cases t; exact .base .non
  | bl b => cases t; exact .base (.bl b)
  | int b => cases t; exact .base (.int b)
  | str b => cases t; exact .base (.str b)
  | lst a b =>
    cases t
    rcases a with (a | ⟨o, a⟩) | ⟨o, its, n, a, b, _⟩
    · exact .base (.lst a)
    · exact .base (.frz a)
    · exact .kList a b
  | tup a b =>
    cases t
    rcases a with (a | ⟨o, a⟩) | ⟨o, its, n, a, b, _⟩
    · exact .base (.tup a)
    · exact .fTuple a
    · exact .kTuple a b
theorem se_isi {x : SV} {d : PyData} {cl T : String} {cp : Pos} {k : Bool} (hm : X.mg "isinstance" = none) (hm2 : X.mg (Str.ofString cl) = none) (ha : SE X c a A (.ok x A1)) (v1 : viewOf A1.μ x = some d) (ht : tyD d = some T) (hk : kitB T cl = some k) (hv2 : bootBuiltins (Str.ofString cl) = some (.type cl)) (hg2 : Gl X (Str.ofString cl)) (hn2 : Str.ofString cl ≠ "__name__") (hd2 : (Str.ofString cl == ("__debug__" : Str)) = false)
    (hg : Gl X "isinstance") (hs1 : starEach [a, .Name (Str.ofString cl) cp] X.env = (false, eval a X.env) :: starEach [.Name (Str.ofString cl) cp] X.env) (hs2 : starEach [.Name (Str.ofString cl) cp] X.env = (false, eval (.Name (Str.ofString cl) cp) X.env) :: starEach [] X.env) (hpl : (backTo pos (starEach [.Name (Str.ofString cl) cp] X.env)).any (·.1) = false) :
    SE X c (.Call (.Name "isinstance" p) [a, .Name (Str.ofString cl) cp] [] pos) A (.ok (.dat (.bool k)) A1) := fun G ps σ H S _ =>
  wE_of (pe_callB call_isi hg hm (by decide +kernel) (pa_cons pe_w (pa_cons (pe_bltn hg2 hm2 hv2 (v := .ty cl) rfl hn2 hd2) pa_nil hs2) hs1) (by decide) (by decide) hs1 hpl) (go1 ha S fun v H1 G1 qs e1 x1 S1 r1 =>
    ⟨v, .ty cl, .type T, .type cl, k, rfl, .ty cl, tyX_of (r1.view S1.hs v1) ht, kit_ty hk, (Post.dat S1 (.bl k)).up e1 x1⟩)
end
end Py

set_option Elab.async false
set_option linter.all false
set_option maxRecDepth 100000
set_option maxHeartbeats 2000000
/-! PyF: calls of one's own defs. -/
namespace Py
open PySem PySem.Spec PyProof.Rows L2
open Evl (Ex)
open Eng (dp_up dp_upAll dall_len dall_get dall_getV dall_app dall_set dp_int dp_str dp_bl dp_non dp_list dp_tup wE wT wA wS wB pe_w pt_w pa_w ps_w pss_w wE_of wT_of wA_of wS_of wB_of wE_mono wT_mono wA_mono)
/-- a def's promise: what the interpreter says of it -/
def liftF (K : PySem.W.Frag) (cm : Str → Option Addr) (mg : Str → Option Value) (Φ : List SV → List ON → Option RO) (n : Nat) : Sp := fun vs H Q E => ∃ (G : Hp) (own : List Addr) (ss : List SV) (μ : List ON) (ro : RO),
  vs.length = n ∧ Φ ss μ = some ro ∧ HS K ⟨H, G, own, cm, none⟩ μ G own H ∧ VsOk K G own vs ss ∧ match ro with
  | .ret sv μ' => ∀ v G2 qs H2, HS K ⟨H, G, own, cm, none⟩ μ' G2 qs H2 → VOk K G2 qs v sv → Q v H2
  | .ex C μ' => ∀ a G2 qs H2, mg C = some (.ref a) → HS K ⟨H, G, own, cm, none⟩ μ' G2 qs H2 → E (.ref a) none H2
/-- a def of the module -/
structure Cal (P : Program) (w : World) (K : PySem.W.Frag) (cm : Str → Option Addr) (mg : Str → Option Value) (base : Heap) (lev : Nat) (x : Str) (Φ : List SV → List ON → Option RO) : Prop where
  ex : ∃ f fd ps n, FnOk P w K mg base (L2.CX P w) lev f fd ps (liftF K cm mg Φ n) ∧ mg x = some (.ref f) ∧ PySem.W.keepIn K (.ref f) = true ∧ Binds K fd ps [] ∧ ∀ ss μ, Φ ss μ ≠ none → ss.length = n
section
variable {X : Cx} {c : Ct} {A A1 A2 : AS} {a b e : Expr} {es : List Expr} {pos p : Pos} {o : Out SV} {G G1 G2 : Hp} {ps qs : List Addr} {σ : L2.St} {H H1 H2 : Hp} {K : PySem.W.Frag} {μ μ' : List ON} {cm : Str → Option Addr}
theorem HS.start0 (h : Ex G H) : HS K ⟨H, G, [], cm, none⟩ [] G [] H :=
  ⟨Ex.refl _, fun b o hb g q => (by have g' : G b = none := g; rw [g'] at q; cases q), fun b o _ q => q, fun b hb => hb, h, rfl, List.nodup_nil, ⟨[], rfl⟩, fun p hp => (by cases hp), fun k p n hk => (by simp at hk)⟩
/-- a node is no tuple -/
theorem NodeOk.notT {p : Addr} {n : ON} {o : HO} (h : NodeOk K cm G ps H p n) (hn : n ≠ .gone) (ho : H p = some o) : ¬ TupL o := by
  rintro ⟨xs, rfl | ⟨ob, rfl⟩⟩ <;> cases n with
  | gone => exact hn rfl
  | lst ds => obtain ⟨_, ys, z, _⟩ := h; rw [ho] at z; cases z
  | obs ds => obtain ⟨_, ys, z, _⟩ := h; rw [ho] at z; cases z
  | dct ds => obtain ⟨_, ys, z, _⟩ := h; rw [ho] at z; cases z
  | dctT ds => obtain ⟨_, ys, z, _⟩ := h; rw [ho] at z; cases z
  | ins C ds => obtain ⟨_, a, dx, ys, _, z, _⟩ := h; rw [ho] at z; cases z
/-- behind a call that was given no node -/
theorem HS.frame (h : HS K c μ G ps H) (k : HS K ⟨H, G, [], c.cm, none⟩ μ' G2 qs H2) : HS K c μ G2 ps H2 := by
  refine ⟨h.ex.trans k.ex, fun b o hb g q => ?_, fun b o hb q => ?_, fun b hb => k.live b (h.live b hb), k.sub, h.mlen, h.nd, h.pre, fun p hp => ⟨k.live p (h.new p hp).1, (h.new p hp).2⟩, fun j p n hj hn => ?_⟩
  · cases z : G b with
    | none => exact k.fr b o (h.live b hb) z q
    | some o' =>
      have z2 := k.ex b o' z
      rw [q] at z2; cases z2
      exact h.fr b o hb g z
  · exact k.keep b o (fun z => by cases z) (h.keep b o hb q)
  · have old := h.mu j p n hj hn
    by_cases hg : n = .gone
    · subst hg; exact True.intro
    have gp : G p = none := old.free.resolve_left hg
    have hp := (h.new p (List.mem_of_getElem? hj)).1
    refine old.up k.ex (Ext.refl _) (.inr ?_) fun o ho => k.keep p o (fun z => by cases z) ho
    cases z : G2 p with
    | none => rfl
    | some o =>
      have t := k.fr p o hp gp z
      cases z3 : H p with
      | none => exact absurd z3 hp
      | some o3 =>
        have z4 := k.keep p o3 (fun z => by cases z) z3
        have z5 := k.sub p o z
        rw [z4] at z5; cases z5
        exact absurd t (old.notT hg z3)
/-- a list that a callee made becomes a node -/
theorem HS.adopt {q : Addr} {n : ON} (h : HS K c μ G2 ps H2) (hq : q ∉ ps) (h0 : c.H0 q = none) (hh : H2 q ≠ none) (hn : NodeOk K c.cm G2 (ps ++ [q]) H2 q n) : HS K c (μ ++ [n]) G2 (ps ++ [q]) H2 := by
  refine ⟨h.ex, h.fr, h.keep, h.live, h.sub, by simp [h.mlen], ?_, ?_, fun r hr => ?_, fun j r m hj hm => ?_⟩
  · refine List.nodup_append.mpr ⟨h.nd, by simp, fun a ha b hb => ?_⟩
    rw [List.mem_singleton.mp hb]; exact fun z => hq (z ▸ ha)
  · obtain ⟨t, e⟩ := h.pre
    exact ⟨t ++ [q], by rw [e, List.append_assoc]⟩
  · rcases List.mem_append.mp hr with hr | hr
    · exact h.new r hr
    · rw [List.mem_singleton.mp hr]; exact ⟨hh, .inr h0⟩
  · rcases get_last hj with hj | ⟨hj, er⟩
    · have hjl := (List.getElem?_eq_some_iff.mp hj).1
      rw [List.getElem?_append_left (by rw [← h.mlen]; exact hjl)] at hm
      have old := h.mu j r m hj hm
      exact old.up (Ex.refl _) ⟨[q], rfl⟩ old.free fun o ho => ho
    · rw [hj, h.mlen, List.getElem?_append_right (Nat.le_refl _), Nat.sub_self] at hm
      have e : n = m := Option.some.inj hm
      rw [er, ← e]; exact hn
/-- a list that a callee made stands still -/
theorem HS.still {q : Addr} {o : HO} (h : HS K c μ G2 ps H2) (hq : q ∉ ps) (h0 : c.H0 q = none) (hg : G2 q = none) (hh : H2 q = some o) : HS K c μ (upd G2 q o) ps H2 ∧ Ex G2 (upd G2 q o) := by
  have e : Ex G2 (upd G2 q o) := Ex.new hg
  refine ⟨⟨h.ex.trans e, fun b o' hb g z => ?_, h.keep, h.live, fun b u z => ?_, h.mlen, h.nd, h.pre, h.new, fun j p n hj hn => ?_⟩, e⟩
  · rw [upd_ne (fun w => hb (by rw [w]; exact h0))] at z; exact h.fr b o' hb g z
  · by_cases w : b = q
    · subst w; rw [upd_same] at z; rw [hh]; exact z
    · rw [upd_ne w] at z; exact h.sub b u z
  · have old := h.mu j p n hj hn
    have ne : p ≠ q := fun w => hq (by rw [← w]; exact List.mem_of_getElem? hj)
    exact old.up e (Ext.refl _) (old.free.imp id fun g => by rw [upd_ne ne]; exact g) fun _ ho => ho
/-- what a callee made is new to the caller -/
theorem HS.fresh {q : Addr} (h : HS K c μ G ps H) (k : HS K ⟨H, G1, [], cm, none⟩ μ' G2 qs H2) (hq : q ∈ qs) : q ∉ ps ∧ c.H0 q = none ∧ H q = none := by
  have z : H q = none := (k.new q hq).2.resolve_left (fun z => by cases z)
  obtain ⟨a1, a2, _, _⟩ := h.n0 z
  exact ⟨a1, a2, z⟩
theorem vs_dat : ∀ {vs : List V} {ds : List PyData}, DpAll K G vs ds → VsOk K G ps vs (ds.map .dat)
  | [], [], _ => True.intro
  | _ :: _, _ :: _, .cons h t => ⟨h, vs_dat t⟩
theorem dall_len' {vs : List V} {ds : List PyData} (h : DpAll K G vs ds) : vs.length = (ds.map SV.dat).length := by rw [List.length_map]; exact dall_len h
def noE : L2.St → XK := fun _ _ _ _ => False
theorem passNo : ∀ σ, PassesAt (L2.CX X.prog X.w) X σ (noE σ) := fun σ pins H s e s' I h => by
  obtain ⟨_, _, _, _, _, _, _, _, _, _, _, _, z⟩ := h
  exact z.elim
theorem call_plain {x : Str} {lev : Nat} {Φ : List SV → List ON → Option RO} {ss : List SV} {ds : List PyData} {fr : Bool} (C : Cal X.prog X.w X.K c.cm X.mg X.base lev x Φ) (hr : Room lev X.A) (ha : SA X c (e :: es) A (.ok ss A1)) (hd : toDs c.own.length ss A1 = some (.ok ds A2))
    (h : plainO fr A2 (Φ (ds.map .dat) []) = some o) (hg : Gl X x) (hdb : (x == ("__debug__" : Str)) = false) (he : starEach (e :: es) X.env = (false, eval e X.env) :: starEach es X.env) (hpl : (backTo pos (starEach es X.env)).any (·.1) = false) :
    SE X c (.Call (.Name x p) (e :: es) [] pos) A o := fun G ps σ H S xk => by
  obtain ⟨f, fd, pr, n, F, hm, hk, hb, hlen⟩ := C.ex
  have hn : ∀ {vs : List V} {G : Hp}, DpAll X.K G vs ds → vs.length = n := fun {vs G} hv => by
    rw [dall_len' hv]
    refine hlen _ [] fun z => ?_
    rw [z] at h; cases h
  cases hΦ : Φ (ds.map .dat) [] with
  | none => rw [hΦ] at h; cases h
  | some ro =>
    rw [hΦ] at h
    cases ro with
    | ex Cn μ' =>
      cases μ' with
      | cons _ _ => cases h
      | nil =>
        cases h
        obtain ⟨W, tk, a, ma, hW⟩ := xk
        refine wE_of (pe_callS F hr hg hm hk hb (passAt tk) pa_w hdb he hpl) (wA_mono (ha G ps σ H S True.intro) fun vs H1 ⟨ss', A', e1, G1, qs, e2, x2, S1, r1⟩ => ?_)
        cases e1
        obtain ⟨ds', A'', e3, G2, e4, S2, r2⟩ := toDs_ok S1 r1 hd
        cases e3
        refine ⟨G2, [], _, [], _, hn r2, hΦ, HS.start0 S2.hs.sub, vs_dat r2, fun a' G3 rs H3 ma' k => ?_⟩
        rw [ma] at ma'
        cases ma'
        exact hW G3 qs σ H3 (S2.on k.ex (Ext.refl _) (S2.hs.frame k))
    | ret sv μ' =>
      refine wE_of (pe_callS F hr hg hm hk hb passNo pa_w hdb he hpl) (wA_mono (ha G ps σ H S True.intro) fun vs H1 ⟨ss', A', e1, G1, qs, e2, x2, S1, r1⟩ => ?_)
      cases e1
      obtain ⟨ds', A'', e3, G2, e4, S2, r2⟩ := toDs_ok S1 r1 hd
      cases e3
      refine ⟨G2, [], _, [], _, hn r2, hΦ, HS.start0 S2.hs.sub, vs_dat r2, fun v G3 rs H3 k rv => ?_⟩
      have S3 := S2.on k.ex (Ext.refl _) (S2.hs.frame k)
      unfold plainO at h
      split at h
      · rename_i q
        cases q
        split at h
        · cases h
        · cases h
          exact (Post.dat S3 rv).up (e2.trans (e4.trans k.ex)) x2
      · rename_i es' q
        cases q
        obtain ⟨q, hq, rfl⟩ := rv
        have hqm := List.mem_of_getElem? hq
        obtain ⟨f1, f2, f3⟩ := S2.hs.fresh k hqm
        obtain ⟨g, xs, hx, hd'⟩ := k.mu 0 q _ hq rfl
        split at h
        · cases h
          have k2 : HS X.K c (A2.μ ++ [.lst es']) G3 (qs ++ [q]) H3 := S3.hs.adopt f1 f2 (by rw [hx]; exact fun z => nomatch z) ⟨g, xs, hx, hd'⟩
          exact ⟨_, _, rfl, G3, qs ++ [q], e2.trans (e4.trans k.ex), x2.trans ⟨[q], rfl⟩, S2.on k.ex ⟨[q], rfl⟩ k2, ⟨q, by rw [← S2.hs.mlen]; simp, rfl⟩⟩
        · cases h
          obtain ⟨k2, e5⟩ := S3.hs.still f1 f2 g hx
          exact ⟨_, _, rfl, _, qs, e2.trans (e4.trans (k.ex.trans e5)), x2, S3.on e5 (Ext.refl _) k2, (.lst (.inl (.inl upd_same)) (dp_upAll e5 _ hd') : Dp _ _ _ _)⟩
      · rename_i q; cases q
      · cases h
theorem call_X {x : Str} {lev : Nat} {Φ : List SV → List ON → Option RO} {Cn : Str} (C : Cal X.prog X.w X.K c.cm X.mg X.base lev x Φ) (hr : Room lev X.A) (ha : SA X c (e :: es) A (.ex Cn A1)) (hg : Gl X x) (hdb : (x == ("__debug__" : Str)) = false) (he : starEach (e :: es) X.env = (false, eval e X.env) :: starEach es X.env) (hpl : (backTo pos (starEach es X.env)).any (·.1) = false) :
    SE X c (.Call (.Name x p) (e :: es) [] pos) A (.ex Cn A1) := fun G ps σ H S xk => by
  obtain ⟨f, fd, pr, n, F, hm, hk, hb, hlen⟩ := C.ex
  exact wE_of (pe_callS F hr hg hm hk hb passNo pa_w hdb he hpl) (wA_mono (ha G ps σ H S xk) fun vs H1 q => postA_ex q)
/-! ### lent -/
/-- what was known, and the tuples -/
def lentG (G G3 : Hp) : Hp := fun b => match G3 b with
  | some (.tup xs) => some (.tup xs)
  | some (.frz ob (.tup xs)) => some (.frz ob (.tup xs))
  | _ => G b
theorem lentG_or {G G3 : Hp} {b : Addr} {o : HO} (h : lentG G G3 b = some o) : (TupL o ∧ G3 b = some o) ∨ G b = some o := by
  unfold lentG at h
  split at h
  · rename_i xs q; cases h; exact .inl ⟨⟨xs, .inl rfl⟩, q⟩
  · rename_i ob xs q; cases h; exact .inl ⟨⟨xs, .inr ⟨ob, rfl⟩⟩, q⟩
  · exact .inr h
theorem lentG_tup {G G3 : Hp} {b : Addr} {o : HO} (h : G3 b = some o) (t : TupL o) : lentG G G3 b = some o := by
  unfold lentG
  obtain ⟨xs, rfl | ⟨ob, rfl⟩⟩ := t <;> rw [h]
theorem lentG_ex {G G3 : Hp} (h : Ex G G3) : Ex G (lentG G G3) := fun b o q => by
  have z := h b o q
  unfold lentG
  rw [z]
  split
  · rename_i w; cases w; rfl
  · rename_i w; cases w; rfl
  · exact q
theorem lentG_sub {G G3 H3 : Hp} (h : Ex G3 H3) (h2 : Ex G H3) : Ex (lentG G G3) H3 := fun b o q => by
  rcases lentG_or q with ⟨_, z⟩ | z
  · exact h b o z
  · exact h2 b o z
mutual
theorem dp_lent {G G3 : Hp} : ∀ {v : V} (d : PyData), Dp K G3 v d → noRef d = true → Dp K (lentG G G3) v d
  | _, .none, h, _ => by cases h; exact .non
  | _, .bool b, h, _ => by cases h; exact .bl b
  | _, .int i, h, _ => by cases h; exact .int i
  | _, .str x, h, _ => by cases h; exact .str x
  | _, .list ds, _, n => by cases n
  | _, .tuple ds, h, n => by
    cases h with
    | tup hs ha =>
      refine .tup ?_ (dp_lents ds ha n)
      rcases hs with (hs | ⟨o, hs⟩) | hs
      · exact .inl (.inl (lentG_tup hs ⟨_, .inl rfl⟩))
      · exact .inl (.inr ⟨o, lentG_tup hs ⟨_, .inr ⟨o, rfl⟩⟩⟩)
      · exact .inr hs
  | _, .dict _, h, _ => by cases h
theorem dp_lents {G G3 : Hp} : ∀ {vs : List V} (ds : List PyData), DpAll K G3 vs ds → noRef.noRefs ds = true → DpAll K (lentG G G3) vs ds
  | _, [], h, _ => by cases h; exact .nil
  | _, d :: ds, h, n => by
    have n' : (noRef d && noRef.noRefs ds) = true := n
    rw [Bool.and_eq_true] at n'
    cases h with
    | cons h1 h2 => exact .cons (dp_lent d h1 n'.1) (dp_lents ds h2 n'.2)
end
theorem noRefs_all : ∀ ds : List PyData, ds.all noRef = true → noRef.noRefs ds = true
  | [], _ => rfl
  | d :: ds, h => by
    rw [List.all_cons, Bool.and_eq_true] at h
    show (noRef d && noRef.noRefs ds) = true
    rw [h.1, noRefs_all ds h.2]; rfl
/-- behind a call to which all was lent -/
theorem HS.lent (h : HS K c μ G ps H) (k : HS K ⟨H, H, [], c.cm, none⟩ μ' G2 qs H2) : HS K c μ (lentG G G2) ps H2 := by
  have eg : Ex G G2 := h.sub.trans k.ex
  have e : Ex G (lentG G G2) := lentG_ex eg
  refine ⟨h.ex.trans e, fun b o hb g q => ?_, fun b o hb q => ?_, fun b hb => k.live b (h.live b hb), lentG_sub k.sub (eg.trans k.sub), h.mlen, h.nd, h.pre, fun p hp => ⟨k.live p (h.new p hp).1, (h.new p hp).2⟩, fun j p n hj hn => ?_⟩
  · rcases lentG_or q with ⟨z, _⟩ | z
    · exact z
    · exact h.fr b o hb g z
  · exact k.keep b o (fun z => by cases z) (h.keep b o hb q)
  · have old := h.mu j p n hj hn
    by_cases hg : n = .gone
    · subst hg; exact True.intro
    have gp : G p = none := old.free.resolve_left hg
    have hp := (h.new p (List.mem_of_getElem? hj)).1
    refine old.up e (Ext.refl _) (.inr ?_) fun o ho => k.keep p o (fun z => by cases z) ho
    cases z : lentG G G2 p with
    | none => rfl
    | some o =>
      rcases lentG_or z with ⟨t, w⟩ | w
      · cases z3 : H p with
        | none => exact absurd z3 hp
        | some o3 =>
          have z4 := k.keep p o3 (fun z => by cases z) z3
          have z5 := k.sub p o w
          rw [z4] at z5; cases z5
          exact absurd t (old.notT hg z3)
      · rw [gp] at w; cases w
theorem call_lent {x : Str} {lev : Nat} {Φ : List SV → List ON → Option RO} {ss : List SV} {ds : List PyData} {fr : Bool} (C : Cal X.prog X.w X.K c.cm X.mg X.base lev x Φ) (hr : Room lev X.A) (ha : SA X c (e :: es) A (.ok ss A1)) (hd : views ss A1 = some (.ok ds A1))
    (h : lentO fr A1 (Φ (ds.map .dat) []) = some o) (hg : Gl X x) (hdb : (x == ("__debug__" : Str)) = false) (he : starEach (e :: es) X.env = (false, eval e X.env) :: starEach es X.env) (hpl : (backTo pos (starEach es X.env)).any (·.1) = false) :
    SE X c (.Call (.Name x p) (e :: es) [] pos) A o := fun G ps σ H S xk => by
  obtain ⟨f, fd, pr, n, F, hm, hk, hb, hlen⟩ := C.ex
  have hn : ∀ {vs : List V} {G : Hp}, DpAll X.K G vs ds → vs.length = n := fun {vs G} hv => by
    rw [dall_len' hv]
    refine hlen _ [] fun z => ?_
    rw [z] at h; cases h
  cases hΦ : Φ (ds.map .dat) [] with
  | none => rw [hΦ] at h; cases h
  | some ro =>
    rw [hΦ] at h
    cases ro with
    | ex Cn μ' =>
      cases μ' with
      | cons _ _ => cases h
      | nil =>
        cases h
        obtain ⟨W, tk, a, ma, hW⟩ := xk
        refine wE_of (pe_callS F hr hg hm hk hb (passAt tk) pa_w hdb he hpl) (wA_mono (ha G ps σ H S True.intro) fun vs H1 ⟨ss', A', e1, G1, qs, e2, x2, S1, r1⟩ => ?_)
        cases e1
        obtain ⟨ds', e3, r2⟩ := views_ok S1 r1 hd
        cases e3
        refine ⟨H1, [], _, [], _, hn r2, hΦ, HS.start0 (Ex.refl _), vs_dat r2, fun a' G3 rs H3 ma' k => ?_⟩
        rw [ma] at ma'
        cases ma'
        have k2 := S1.hs.lent k
        exact hW _ qs σ H3 (S1.on (lentG_ex (S1.hs.sub.trans k.ex)) (Ext.refl _) k2)
    | ret sv μ' =>
      refine wE_of (pe_callS F hr hg hm hk hb passNo pa_w hdb he hpl) (wA_mono (ha G ps σ H S True.intro) fun vs H1 ⟨ss', A', e1, G1, qs, e2, x2, S1, r1⟩ => ?_)
      cases e1
      obtain ⟨ds', e3, r2⟩ := views_ok S1 r1 hd
      cases e3
      refine ⟨H1, [], _, [], _, hn r2, hΦ, HS.start0 (Ex.refl _), vs_dat r2, fun v G3 rs H3 k rv => ?_⟩
      have eL := lentG_ex (S1.hs.sub.trans k.ex)
      have S3 := S1.on eL (Ext.refl _) (S1.hs.lent k)
      unfold lentO at h
      split at h
      · rename_i d q
        cases q
        split at h
        · cases h
        · split at h
          · rename_i hnr
            cases h
            exact (Post.dat S3 (dp_lent d rv hnr)).up (e2.trans eL) x2
          · cases h
      · rename_i es' q
        cases q
        split at h
        · rename_i hnr
          obtain ⟨q, hq, rfl⟩ := rv
          have hqm := List.mem_of_getElem? hq
          obtain ⟨f1, f2, f3⟩ := S1.hs.fresh k hqm
          obtain ⟨g, xs, hx, hd'⟩ := k.mu 0 q _ hq rfl
          have hd2 := dp_lents (G := G1) es' hd' (noRefs_all es' hnr)
          have gq : lentG G1 G3 q = none := by
            cases z : lentG G1 G3 q with
            | none => rfl
            | some o =>
              rcases lentG_or z with ⟨_, w⟩ | w
              · rw [g] at w; cases w
              · have := S1.hs.sub q o w; rw [f3] at this; cases this
          split at h
          · cases h
            have k2 : HS X.K c (A1.μ ++ [.lst es']) (lentG G1 G3) (qs ++ [q]) H3 := S3.hs.adopt f1 f2 (by rw [hx]; exact fun z => nomatch z) ⟨gq, xs, hx, hd2⟩
            exact ⟨_, _, rfl, _, qs ++ [q], e2.trans eL, x2.trans ⟨[q], rfl⟩, S1.on eL ⟨[q], rfl⟩ k2, ⟨q, by rw [← S1.hs.mlen]; simp, rfl⟩⟩
          · cases h
            obtain ⟨k2, e5⟩ := S3.hs.still f1 f2 gq hx
            exact ⟨_, _, rfl, _, qs, e2.trans (eL.trans e5), x2, S3.on e5 (Ext.refl _) k2, (.lst (.inl (.inl upd_same)) (dp_upAll e5 _ hd2) : Dp _ _ _ _)⟩
        · cases h
      · rename_i q; cases q
      · cases h
/-! ### the first argument by reference -/
theorem HS.start1 {k : Nat} {p : Addr} {n : ON} (h : HS K c μ G ps H) (hp : ps[k]? = some p) (hn : μ[k]? = some n) (hf : flatN n = true) : HS K ⟨H, G, [p], c.cm, none⟩ [n] G [p] H := by
  have hm := List.mem_of_getElem? hp
  refine ⟨Ex.refl _, fun b o hb g q => (by have g' : G b = none := g; rw [g'] at q; cases q), fun b o _ q => q, fun b hb => hb, h.sub, rfl, by simp, ⟨[], rfl⟩, fun r hr => ?_, fun j r m hj hm2 => ?_⟩
  · rw [List.mem_singleton.mp hr]; exact ⟨(h.new p hm).1, .inl (List.mem_singleton.mpr rfl)⟩
  · cases j with
    | succ j => simp at hj
    | zero =>
      have e1 : p = r := Option.some.inj hj
      have e2 : n = m := Option.some.inj hm2
      subst e1; subst e2
      have old := h.mu k p n hp hn
      cases n with
      | lst ds => exact old
      | gone => cases hf
      | obs _ => cases hf
      | dct _ => cases hf
      | dctT _ => cases hf
      | ins _ _ => cases hf
/-- behind a call that was given the node k -/
theorem HS.frame1 {k : Nat} {p : Addr} {n : ON} {ds : List PyData} {more : List ON} (h : HS K c μ G ps H) (hp : ps[k]? = some p) (hn : μ[k]? = some n) (hg : n ≠ .gone) (j : HS K ⟨H, G, [p], c.cm, none⟩ (.lst ds :: more) G2 qs H2) : HS K c (μ.set k (.lst ds)) G2 ps H2 := by
  have hpm := List.mem_of_getElem? hp
  have q0 : qs[0]? = some p := by obtain ⟨t, e⟩ := j.pre; rw [e]; rfl
  have nt : ∀ {b : Addr} {o : HO}, H b ≠ none → G b = none → G2 b = some o → TupL o := fun {b o} a1 a2 a3 => j.fr b o a1 a2 a3
  refine ⟨h.ex.trans j.ex, fun b o hb g q => ?_, fun b o hb q => ?_, fun b hb => j.live b (h.live b hb), j.sub, by rw [List.length_set]; exact h.mlen, h.nd, h.pre, fun r hr => ⟨j.live r (h.new r hr).1, (h.new r hr).2⟩, fun i r m hi hm => ?_⟩
  · cases z : G b with
    | none => exact nt (h.live b hb) z q
    | some o' =>
      have z2 := j.ex b o' z
      rw [q] at z2; cases z2
      exact h.fr b o hb g z
  · refine j.keep b o (fun z => ?_) (h.keep b o hb q)
    have e : b = p := List.mem_singleton.mp z
    subst e
    rcases (h.new b hpm).2 with w | w
    · exact hb w
    · rw [w] at q; cases q
  · by_cases e : k = i
    · subst e
      rw [List.getElem?_set_self (List.getElem?_eq_some_iff.mp hn).1] at hm
      have e2 : ON.lst ds = m := Option.some.inj hm
      subst e2
      rw [hp] at hi
      have e3 : p = r := Option.some.inj hi
      subst e3
      exact j.mu 0 p _ q0 rfl
    · rw [List.getElem?_set_ne e] at hm
      have old := h.mu i r m hi hm
      by_cases hgm : m = .gone
      · subst hgm; exact True.intro
      have gr : G r = none := old.free.resolve_left hgm
      have ne : r ∉ [p] := fun w => e (nodup_idx h.nd hp (by rw [← List.mem_singleton.mp w]; exact hi))
      have hr := (h.new r (List.mem_of_getElem? hi)).1
      refine old.up j.ex (Ext.refl _) (.inr ?_) fun o ho => j.keep r o ne ho
      cases z : G2 r with
      | none => rfl
      | some o =>
        have t := nt hr gr z
        cases z3 : H r with
        | none => exact absurd z3 hr
        | some o3 =>
          have z4 := j.keep r o3 ne z3
          have z5 := j.sub r o z
          rw [z4] at z5; cases z5
          exact absurd t (old.notT hgm z3)
theorem call_ref {x : Str} {lev k : Nat} {Φ : List SV → List ON → Option RO} {ss : List SV} {ds ps0 : List PyData} {fr : Bool} (C : Cal X.prog X.w X.K c.cm X.mg X.base lev x Φ) (hr : Room lev X.A) (ha : SA X c (e :: es) A (.ok (.own k :: ss) A1)) (hd : toDs c.own.length ss A1 = some (.ok ds A2)) (hk2 : A2.μ[k]? = some (.lst ps0))
    (h : refO k fr A2 (Φ (.own 0 :: ds.map .dat) [.lst ps0]) = some o) (hg : Gl X x) (hdb : (x == ("__debug__" : Str)) = false) (he : starEach (e :: es) X.env = (false, eval e X.env) :: starEach es X.env) (hpl : (backTo pos (starEach es X.env)).any (·.1) = false) :
    SE X c (.Call (.Name x p) (e :: es) [] pos) A o := fun G ps σ H S xk => by
  obtain ⟨f, fd, pr, n, F, hm, hk, hb, hlen⟩ := C.ex
  have hn : ∀ {v : V} {vs : List V} {G : Hp}, DpAll X.K G vs ds → (v :: vs).length = n := fun {v vs G} hv => by
    rw [List.length_cons, dall_len' hv]
    refine hlen (.own 0 :: ds.map .dat) [.lst ps0] fun z => ?_
    rw [z] at h; cases h
  cases hΦ : Φ (.own 0 :: ds.map .dat) [.lst ps0] with
  | none => rw [hΦ] at h; cases h
  | some ro =>
    rw [hΦ] at h
    cases ro with
    | ex Cn μ' => cases h
    | ret sv μ' =>
      refine wE_of (pe_callS F hr hg hm hk hb passNo pa_w hdb he hpl) (wA_mono (ha G ps σ H S True.intro) fun vs H1 ⟨ss', A', e1, G1, qs, e2, x2, S1, r1⟩ => ?_)
      cases e1
      match vs, r1 with
      | v0 :: vs, ⟨⟨a, hak, ev0⟩, r1⟩ =>
      subst ev0
      obtain ⟨ds', A'', e3, G2, e4, S2, r2⟩ := toDs_ok S1 r1 hd
      cases e3
      refine ⟨G2, [a], _, [.lst ps0], _, hn r2, hΦ, S2.hs.start1 hak hk2 rfl, ⟨⟨a, rfl, rfl⟩, vs_dat r2⟩, fun v G3 rs H3 k' rv => ?_⟩
      unfold refO at h
      split at h
      · rename_i d qd q
        cases q
        split at h
        · cases h
        · cases h
          have k2 := S2.hs.frame1 hak hk2 (fun z => nomatch z) k'
          exact (Post.dat (S2.on k'.ex (Ext.refl _) k2) rv).up (e2.trans (e4.trans k'.ex)) x2
      · rename_i qd es' q
        cases q
        have k2 := S2.hs.frame1 hak hk2 (fun z => nomatch z) k'
        obtain ⟨q, hq, rfl⟩ := rv
        obtain ⟨g, xs, hx, hd'⟩ := k'.mu 1 q _ hq rfl
        have hnq : H1 q = none := by
          refine (k'.new q (List.mem_of_getElem? hq)).2.resolve_left fun z => ?_
          have ez : q = a := List.mem_singleton.mp z
          have q0 : rs[0]? = some a := by obtain ⟨t, e⟩ := k'.pre; rw [e]; rfl
          have := nodup_idx k'.nd hq (by rw [ez]; exact q0)
          omega
        obtain ⟨f1, f2, _, _⟩ := S2.hs.n0 hnq
        split at h
        · cases h
          have k3 : HS X.K c (A2.μ.set k (.lst qd) ++ [.lst es']) G3 (qs ++ [q]) H3 := k2.adopt f1 f2 (by rw [hx]; exact fun z => nomatch z) ⟨g, xs, hx, hd'⟩
          exact ⟨_, _, rfl, G3, qs ++ [q], e2.trans (e4.trans k'.ex), x2.trans ⟨[q], rfl⟩, S2.on k'.ex ⟨[q], rfl⟩ k3, ⟨q, by rw [List.getElem?_append_right (by rw [S2.hs.mlen]; exact Nat.le_refl _), S2.hs.mlen, Nat.sub_self]; rfl, rfl⟩⟩
        · cases h
          obtain ⟨k3, e5⟩ := k2.still f1 f2 g hx
          exact ⟨_, _, rfl, _, qs, e2.trans (e4.trans (k'.ex.trans e5)), x2, (S2.on k'.ex (Ext.refl _) k2).on e5 (Ext.refl _) k3, (.lst (.inl (.inl upd_same)) (dp_upAll e5 _ hd') : Dp _ _ _ _)⟩
      · cases h
end
end Py

set_option Elab.async false
set_option linter.all false
set_option maxRecDepth 100000
set_option maxHeartbeats 2000000
/-! PyG: what is walked; comprehensions. -/
namespace Py
open PySem PySem.Spec PyProof.Rows L2
open Evl (Ex)
open Eng (dp_up dp_upAll dall_len dall_get dall_getV dall_app dall_set dp_int dp_str dp_bl dp_non dp_list dp_tup wE wT wA wS wB pe_w pt_w pa_w ps_w pss_w wE_of wT_of wA_of wS_of wB_of wE_mono wT_mono wA_mono)
/-- a walk over data -/
structure ItP (K : PySem.W.Frag) (J : It) (G : Hp) (ds : List PyData) : Prop where
  go : ∀ i H, Ex G H → i < ds.length → J.go i H
  stop : ∀ i H, Ex G H → ds.length ≤ i → J.stop i H
  yld : ∀ i H x H', Ex G H → i < ds.length → J.yld i H x H' → (H' = H ∧ ∃ d, ds[i]? = some d ∧ Dp K G x d) ∨ (∃ T xs d, H T = none ∧ x = .ref T ∧ H' = upd H T (.tup xs) ∧ ds[i]? = some (.tuple d) ∧ DpAll K G xs d)
def SI (X : Cx) (c : Ct) (tg it : Expr) (A : AS) (o : Out (List PyData)) : Prop := ∀ G ps σ H, St X.K c A G ps σ H → XOk X c o → Eng.wI X tg it σ H fun J H' => ∃ ds A', o = .ok ds A' ∧ ∃ G' qs, Ex G G' ∧ Ext ps qs ∧ St X.K c A' G' qs σ H' ∧ ItP X.K J G' ds
section
variable {X : Cx} {c : Ct} {A A1 A2 : AS} {a b e tg it : Expr} {es : List Expr} {pos p p2 : Pos} {o : Out SV} {G G1 G2 : Hp} {ps qs : List Addr} {σ : L2.St} {H H1 H2 : Hp} {K : PySem.W.Frag} {μ μ' : List ON} {cm : Str → Option Addr}
theorem ItP.next {J : It} {ds : List PyData} {i : Nat} {x : V} {H' : Hp} (P : ItP K J G ds) (S : St K c A G1 ps σ H) (ex : Ex G G1) (hi : i < ds.length) (y : J.yld i H x H') : ∃ G2 d, Ex G1 G2 ∧ St K c A G2 ps σ H' ∧ ds[i]? = some d ∧ Dp K G2 x d := by
  rcases P.yld i H x H' (ex.trans S.hs.sub) hi y with ⟨rfl, d, hd, r⟩ | ⟨T, xs, d, hT, rfl, rfl, hd, r⟩
  · exact ⟨G1, d, Ex.refl _, S, hd, dp_up ex d r⟩
  · obtain ⟨k, e⟩ := S.hs.newD (o := .tup xs) hT
    exact ⟨_, _, e, S.on e (Ext.refl _) k, hd, .tup (.inl (.inl upd_same)) (dp_upAll (ex.trans e) d r)⟩
theorem itp_list {q : Addr} {xs : List V} {ds : List PyData} (h : SqL K G q xs) (ha : DpAll K G xs ds) : ItP K (Itl K q) G ds where
  go := fun i H e l => ⟨xs, xs[i]'(by rw [dall_len ha]; exact l), Evl.ex_l e h, List.getElem?_eq_getElem _⟩
  stop := fun i H e l => ⟨xs, Evl.ex_l e h, by rw [dall_len ha]; exact l⟩
  yld := fun i H x H' e l y => by
    obtain ⟨rfl, y⟩ := y
    exact .inl ⟨rfl, dall_getV ha (y xs (Evl.ex_l e h))⟩
theorem itp_tup {q : Addr} {xs : List V} {ds : List PyData} (h : SqT K G q xs) (ha : DpAll K G xs ds) : ItP K (Itt K q) G ds where
  go := fun i H e l => ⟨xs, xs[i]'(by rw [dall_len ha]; exact l), Evl.ex_t e h, List.getElem?_eq_getElem _⟩
  stop := fun i H e l => ⟨xs, Evl.ex_t e h, by rw [dall_len ha]; exact l⟩
  yld := fun i H x H' e l y => by
    obtain ⟨rfl, y⟩ := y
    exact .inl ⟨rfl, dall_getV ha (y xs (Evl.ex_t e h))⟩
theorem rngD_get {lo : Int} {n i : Nat} (h : i < n) : (rngD lo n)[i]? = some (.int (lo + (i : Int))) := by
  unfold rngD; rw [List.getElem?_map, List.getElem?_range h]; rfl
theorem rngD_len (lo : Int) (n : Nat) : (rngD lo n).length = n := by unfold rngD; rw [List.length_map, List.length_range]
theorem itp_rng (lo : Int) (n : Nat) : ItP K (L2.Itr lo n) G (rngD lo n) where
  go := fun i H e l => by rw [rngD_len] at l; exact l
  stop := fun i H e l => by rw [rngD_len] at l; exact l
  yld := fun i H x H' e l y => by
    rw [rngD_len] at l
    obtain ⟨rfl, rfl⟩ := y
    exact .inl ⟨rfl, _, rngD_get l, .int _⟩
theorem enumD_get {ds : List PyData} {i : Nat} {d : PyData} (h : ds[i]? = some d) : (enumD ds)[i]? = some (.tuple [.int (i : Int), d]) := by
  unfold enumD; rw [List.getElem?_mapIdx, h]; rfl
theorem enumD_len (ds : List PyData) : (enumD ds).length = ds.length := by unfold enumD; rw [List.length_mapIdx]
theorem itp_enum {q : Addr} {xs : List V} {ds : List PyData} (h : SqL K G q xs) (ha : DpAll K G xs ds) : ItP K (Ite K q) G (enumD ds) where
  go := fun i H e l => by
    rw [enumD_len] at l
    exact ⟨xs, xs[i]'(by rw [dall_len ha]; exact l), Evl.ex_l e h, List.getElem?_eq_getElem _⟩
  stop := fun i H e l => by
    rw [enumD_len] at l
    exact ⟨xs, Evl.ex_l e h, by rw [dall_len ha]; exact l⟩
  yld := fun i H x H' e l y => by
    obtain ⟨T, x0, rfl, hT, rfl, hx⟩ := y
    obtain ⟨d, hd, r⟩ := dall_getV ha (hx xs (Evl.ex_l e h))
    exact .inr ⟨T, _, _, hT, rfl, rfl, enumD_get hd, .cons (.int _) (.cons r .nil)⟩
theorem zipD_get : ∀ {as bs : List PyData} {i : Nat} {x y : PyData}, as[i]? = some x → bs[i]? = some y → (zipD as bs)[i]? = some (.tuple [x, y])
  | [], _, _, _, _, h, _ => by simp at h
  | _ :: _, [], _, _, _, _, h => by simp at h
  | a :: as, b :: bs, 0, x, y, h1, h2 => by simp at h1 h2; subst h1; subst h2; rfl
  | a :: as, b :: bs, i + 1, x, y, h1, h2 => by
    show (zipD as bs)[i]? = _
    exact zipD_get (by simpa using h1) (by simpa using h2)
theorem zipD_len : ∀ (as bs : List PyData), (zipD as bs).length = min as.length bs.length
  | [], _ => by simp [zipD]
  | _ :: _, [] => by simp [zipD]
  | a :: as, b :: bs => by
    show (zipD as bs).length + 1 = _
    rw [zipD_len as bs]; simp only [List.length_cons]; omega
theorem wi_mono {R R' : It → Hp → Prop} (h : Eng.wI X tg it σ H R) (k : ∀ J H', R J H' → R' J H') : Eng.wI X tg it σ H R' := Eng.wI_mono h k
theorem si_seq {x : SV} {d : PyData} {ds : List PyData} (ha : SE X c it A (.ok x A1)) (hd : toD c.own.length x A1 = some (.ok d A2)) (h : seqD d = some ds) : SI X c tg it A (.ok ds A2) := fun G ps σ H S _ => by
  have pre : ∀ {v H1 G1 qs}, St X.K c A1 G1 qs σ H1 → VOk X.K G1 qs v x → ∃ G2, Ex G1 G2 ∧ St X.K c A2 G2 qs σ H1 ∧ Dp X.K G2 v d := fun {v H1 G1 qs} S1 r1 => by
    obtain ⟨d', A', e1, G2, e2, S2, r2⟩ := toD_ok S1 r1 hd
    cases e1; exact ⟨G2, e2, S2, r2⟩
  unfold seqD at h
  split at h
  · cases h
    refine Eng.wI_of (pi_list pe_w) (go1 ha S fun v H1 G1 qs e1 x1 S1 r1 => ?_)
    obtain ⟨G2, e2, S2, r2⟩ := pre S1 r1
    obtain ⟨p, xs, rfl, hs, hx⟩ := dp_list r2
    exact ⟨p, rfl, ⟨xs, Evl.ex_l S2.hs.sub hs⟩, _, _, rfl, G2, qs, e1.trans e2, x1, S2, itp_list hs hx⟩
  · cases h
    refine Eng.wI_of (pi_tup pe_w) (go1 ha S fun v H1 G1 qs e1 x1 S1 r1 => ?_)
    obtain ⟨G2, e2, S2, r2⟩ := pre S1 r1
    obtain ⟨p, xs, rfl, hs, hx⟩ := dp_tup r2
    exact ⟨p, rfl, ⟨xs, Evl.ex_t S2.hs.sub hs⟩, _, _, rfl, G2, qs, e1.trans e2, x1, S2, itp_tup hs hx⟩
  · cases h
theorem si_seqX {C : Str} (ha : SE X c it A (.ex C A1)) : SI X c tg it A (.ex C A1) := fun G ps σ H S x => Eng.wI_of (pi_list pe_w) (goX ha S x)
theorem si_rng {x : SV} {n : Int} (hm : X.mg "range" = none) (ha : SE X c a A (.ok x A1)) (v1 : viewOf A1.μ x = some (.int n)) (hn : n ≤ 1000000 ∧ -1000000 ≤ n) (hg : Gl X "range") (hst : starEach [a] X.env = (false, eval a X.env) :: starEach [] X.env) (hst2 : starEach [a] X.env = [(false, eval a X.env)]) :
    SI X c tg (.Call (.Name "range" p) [a] [] p2) A (.ok (rngD 0 n.toNat) A1) := fun G ps σ H S _ =>
  Eng.wI_of (pi_range1 hg hm (pa_cons pe_w pa_nil hst) hst2) (go1 ha S fun v H1 G1 qs e1 x1 S1 r1 =>
    ⟨n, by rw [dp_int (r1.view S1.hs v1)], by omega, by omega, _, _, rfl, G1, qs, e1, x1, S1, itp_rng 0 n.toNat⟩)
theorem si_rngX {C : Str} (hm : X.mg "range" = none) (ha : SE X c a A (.ex C A1)) (hg : Gl X "range") (hst : starEach [a] X.env = (false, eval a X.env) :: starEach [] X.env) (hst2 : starEach [a] X.env = [(false, eval a X.env)]) :
    SI X c tg (.Call (.Name "range" p) [a] [] p2) A (.ex C A1) := fun G ps σ H S x => Eng.wI_of (pi_range1 hg hm (pa_cons pe_w pa_nil hst) hst2) (goX ha S x)
theorem si_rng2 {x y : SV} {m n : Int} (hm : X.mg "range" = none) (ha : SE X c a A (.ok x A1)) (hb : SE X c b A1 (.ok y A2)) (v1 : viewOf A2.μ x = some (.int m)) (v2 : viewOf A2.μ y = some (.int n)) (hn : (n ≤ 1000000 ∧ -1000000 ≤ n) ∧ (m ≤ 1000000 ∧ -1000000 ≤ m)) (hg : Gl X "range")
    (hst : starEach [a, b] X.env = (false, eval a X.env) :: starEach [b] X.env) (hst1 : starEach [b] X.env = (false, eval b X.env) :: starEach [] X.env) (hst2 : starEach [a, b] X.env = [(false, eval a X.env), (false, eval b X.env)]) (hst3 : starEach [b] X.env = [(false, eval b X.env)]) :
    SI X c tg (.Call (.Name "range" p) [a, b] [] p2) A (.ok (rngD m (n - m).toNat) A2) := fun G ps σ H S _ =>
  Eng.wI_of (pi_range2 hg hm (pa_cons pe_w (pa_cons pe_w pa_nil hst1) hst) hst2 hst3) (go1 ha S fun v H1 G1 qs e1 x1 S1 r1 => go1 hb S1 fun w H2 G2 rs e2 x2 S2 r2 =>
    ⟨m, n, by rw [dp_int ((r1.up e2 x2).view S2.hs v1), dp_int (r2.view S2.hs v2)], by omega, _, _, rfl, G2, rs, e1.trans e2, x1.trans x2, S2, itp_rng m (n - m).toNat⟩)
theorem si_enu {x : SV} {ds : List PyData} {elts : List Expr} {kk : Nat} {tpos : Pos} (hm : X.mg "enumerate" = none) (ha : SE X c a A (.ok x A1)) (hd : toD c.own.length x A1 = some (.ok (.list ds) A2)) (hg : Gl X "enumerate") (hst : starEach [a] X.env = (false, eval a X.env) :: starEach [] X.env) (hst2 : starEach [a] X.env = [(false, eval a X.env)]) :
    SI X c (.Tuple elts kk tpos) (.Call (.Name "enumerate" p) [a] [] p2) A (.ok (enumD ds) A2) := fun G ps σ H S _ =>
  Eng.wI_of (pi_enum hg hm (pa_cons pe_w pa_nil hst) hst2) (go1 ha S fun v H1 G1 qs e1 x1 S1 r1 => by
    obtain ⟨d', A', e3, G2, e2, S2, r2⟩ := toD_ok S1 r1 hd
    cases e3
    obtain ⟨p, xs, rfl, hs, hx⟩ := dp_list r2
    exact ⟨p, xs, rfl, Evl.ex_l S2.hs.sub hs, _, _, rfl, G2, qs, e1.trans e2, x1, S2, itp_enum hs hx⟩)
theorem itp_zip {q r : Addr} {xs ys : List V} {ds es : List PyData} (h : SqL K G q xs) (ha : DpAll K G xs ds) (h2 : SqL K G r ys) (hb : DpAll K G ys es) : ItP K (Itz K q r) G (zipD ds es) where
  go := fun i H e l => by
    rw [zipD_len] at l
    exact ⟨xs, ys, xs[i]'(by rw [dall_len ha]; omega), ys[i]'(by rw [dall_len hb]; omega), Evl.ex_l e h, Evl.ex_l e h2, List.getElem?_eq_getElem _, List.getElem?_eq_getElem _⟩
  stop := fun i H e l => by
    rw [zipD_len] at l
    refine ⟨xs, ys, Evl.ex_l e h, Evl.ex_l e h2, ?_⟩
    rw [dall_len ha, dall_len hb]; omega
  yld := fun i H x H' e l y => by
    obtain ⟨T, x0, y0, rfl, hT, rfl, hx, hy⟩ := y
    obtain ⟨d, hd, r1⟩ := dall_getV ha (hx xs (Evl.ex_l e h))
    obtain ⟨d2, hd2, r2⟩ := dall_getV hb (hy ys (Evl.ex_l e h2))
    exact .inr ⟨T, _, _, hT, rfl, rfl, zipD_get hd hd2, .cons r1 (.cons r2 .nil)⟩
theorem si_zip {x y : SV} {ds es' : List PyData} {elts : List Expr} {kk : Nat} {tpos : Pos} {A3 A4 : AS} (hm : X.mg "zip" = none) (ha : SE X c a A (.ok x A1)) (hb : SE X c b A1 (.ok y A2)) (hd : toD c.own.length x A2 = some (.ok (.list ds) A3)) (hd2 : toD c.own.length y A3 = some (.ok (.list es') A4)) (hg : Gl X "zip")
    (hst : starEach [a, b] X.env = (false, eval a X.env) :: starEach [b] X.env) (hst1 : starEach [b] X.env = (false, eval b X.env) :: starEach [] X.env) (hpl : (backTo p2 (starEach [b] X.env)).any (·.1) = false) :
    SI X c (.Tuple elts kk tpos) (.Call (.Name "zip" p) [a, b] [] p2) A (.ok (zipD ds es') A4) := fun G ps σ H S _ =>
  Eng.wI_of (pi_zip hg hm (pa_cons pe_w (pa_cons pe_w pa_nil hst1) hst) hst hpl) (go1 ha S fun v H1 G1 qs e1 x1 S1 r1 => go1 hb S1 fun w H2 G2 rs e2 x2 S2 r2 => by
    obtain ⟨d', A', e3, G3, e4, S3, r3⟩ := toD_ok S2 (r1.up e2 x2) hd
    cases e3
    obtain ⟨d2', A'', e5, G4, e6, S4, r4⟩ := toD_ok S3 (r2.up e4 (Ext.refl _)) hd2
    cases e5
    obtain ⟨p, xs, rfl, hs, hx⟩ := dp_list (dp_up e6 _ r3)
    obtain ⟨q, ys, rfl, hs2, hx2⟩ := dp_list r4
    exact ⟨p, q, xs, ys, rfl, Evl.ex_l S4.hs.sub hs, Evl.ex_l S4.hs.sub hs2, _, _, rfl, G4, rs, e1.trans (e2.trans (e4.trans e6)), x1.trans x2, S4, itp_zip hs hx hs2 hx2⟩)
/-! ### targets -/
theorem sets_ok : ∀ {is : List Nat} {ds : List PyData} {xs : List V} {ρ ρ1 : List SV} {σ : L2.St}, setNs is ds ρ = some ρ1 → St K c ⟨ρ, μ⟩ G ps σ H → DpAll K G xs ds → ∃ σ2, σ2.length = σ.length ∧ St K c ⟨ρ1, μ⟩ G ps σ2 H ∧ (∀ vs, (∀ i ∈ is, i ∈ vs) → L2.wipe σ2 vs = L2.wipe σ vs) ∧ ∀ (N : Nat) (k : L2.St → Hp → Prop), k σ2 H → (is.foldr (fun i g => gCons (gName i) g) gNil) xs σ H k
  | [], [], _, ρ, ρ1, σ, h, S, .nil => by
    have e : ρ = ρ1 := Option.some.inj h
    subst e
    exact ⟨σ, rfl, S, fun _ _ => rfl, fun _ k q => ⟨rfl, q⟩⟩
  | i :: is, d :: ds, x :: xs, ρ, ρ1, σ, h, S, .cons r rs => by
    obtain ⟨σ2, hl, S2, hw, hk⟩ := sets_ok (is := is) (ds := ds) h (S.put (i := i) (sv := .dat d) r) rs
    refine ⟨σ2, by rw [hl, List.length_set], S2, fun vs hv => ?_, fun N k q => ⟨x, xs, rfl, hk N k q⟩⟩
    rw [hw vs fun j hj => hv j (List.mem_cons_of_mem _ hj)]
    exact Eng.wipe_in σ vs (hv i List.mem_cons_self)
  | [], _ :: _, _, _, _, _, h, _, _ => by cases h
  | _ :: _, [], _, _, _, _, h, _, _ => by cases h
/-- the reading of a target -/
def gTg (K : PySem.W.Frag) : Tg → TG
  | .nm i => gName i
  | .tup is => gTup K is.length (is.foldr (fun i g => gCons (gName i) g) gNil)
def Tg.slots : Tg → List Nat
  | .nm i => [i]
  | .tup is => is
theorem setNs_len : ∀ {is : List Nat} {ds : List PyData} {ρ ρ1 : List SV}, setNs is ds ρ = some ρ1 → is.length = ds.length
  | [], [], _, _, _ => rfl
  | i :: is, d :: ds, ρ, ρ1, h => congrArg (· + 1) (setNs_len (is := is) (ds := ds) h)
  | [], _ :: _, _, _, h => by cases h
  | _ :: _, [], _, _, h => by cases h
theorem tg_ok {tg : Tg} {d : PyData} {x : V} {ρ ρ1 : List SV} (h : tgSet tg d ρ = some ρ1) (S : St K c ⟨ρ, μ⟩ G ps σ H) (r : Dp K G x d) : ∃ σ2, St K c ⟨ρ1, μ⟩ G ps σ2 H ∧ (∀ vs, (∀ i ∈ tg.slots, i ∈ vs) → L2.wipe σ2 vs = L2.wipe σ vs) ∧ ∀ (k : L2.St → Hp → Prop), k σ2 H → gTg K tg x σ H k := by
  cases tg with
  | nm i =>
    have e : ρ.set i (.dat d) = ρ1 := Option.some.inj h
    subst e
    exact ⟨σ.set i (some x), S.put (sv := .dat d) r, fun vs hv => Eng.wipe_in σ vs (hv i List.mem_cons_self), fun k q => q⟩
  | tup is =>
    unfold tgSet at h
    dsimp only at h
    split at h
    · rename_i ds
      obtain ⟨p, xs, rfl, hs, ha⟩ := dp_tup r
      obtain ⟨σ2, _, S2, hw, hk⟩ := sets_ok h S ha
      refine ⟨σ2, S2, hw, fun k q => ⟨p, xs, rfl, Evl.ex_t S.hs.sub hs, ?_, hk 0 k q⟩⟩
      rw [dall_len ha]; exact (setNs_len h).symm
    · cases h
/-! ### wiped slots -/
theorem St.wipe (S : St K c A G ps σ H) : ∀ vs : List Nat, St K c ⟨wipeV A.ρ vs, A.μ⟩ G ps (L2.wipe σ vs) H
  | [] => S
  | j :: vs => (St.wipe S vs).drop
theorem wipeV_in : ∀ {vs : List Nat} {ρ : List SV} {i : Nat} {s : SV}, (wipeV ρ vs)[i]? = some s → s ≠ .any → i ∉ vs
  | [], _, _, _, _, _ => by simp
  | j :: vs, ρ, i, s, h, hs => by
    have h' : ((wipeV ρ vs).set j SV.any)[i]? = some s := h
    by_cases e : j = i
    · subst e
      rw [List.getElem?_set_self'] at h'
      cases q : (wipeV ρ vs)[j]? with
      | none => rw [q] at h'; cases h'
      | some y => rw [q] at h'; exact absurd (Option.some.inj h').symm hs
    · rw [List.getElem?_set_ne e] at h'
      have := wipeV_in h' hs
      simp only [List.mem_cons, not_or]
      exact ⟨fun z => e z.symm, this⟩
/-- what is forgotten may be anything -/
theorem St.unwipe {ρ : List SV} {vs : List Nat} (S : St K c ⟨wipeV ρ vs, μ⟩ G ps (L2.wipe σ vs) H) : St K c ⟨wipeV ρ vs, μ⟩ G ps σ H where
  hs := S.hs
  len := by have := S.len; rw [L2.wipe_length] at this; exact this
  sl := fun i sv e => by
    cases sv with
    | any => exact True.intro
    | exc C =>
      have z := S.sl i _ e
      rw [L2.wipe_out (wipeV_in e (fun z => nomatch z))] at z; exact z
    | dat d =>
      have z := S.sl i _ e
      rw [L2.wipe_out (wipeV_in e (fun z => nomatch z))] at z; exact z
    | own k =>
      have z := S.sl i _ e
      rw [L2.wipe_out (wipeV_in e (fun z => nomatch z))] at z; exact z
/-- a heap that also changes at D, which is no node -/
theorem HS.off {D : Addr} {o : HO} (h : HS K c μ G ps H) (hD : D ∉ ps) (h0 : c.H0 D = none) (hg : G D = none) : HS K c μ G ps (upd H D o) := by
  refine ⟨h.ex, h.fr, fun b o' hb q => ?_, fun b hb => ?_, Ex.mut h.sub hg, h.mlen, h.nd, h.pre, fun p hp => ⟨?_, (h.new p hp).2⟩, fun k p n hk hn => ?_⟩
  · rw [upd_ne (fun z => by rw [z, h0] at q; cases q)]; exact h.keep b o' hb q
  · rw [upd_ne (fun z => hb (by rw [z]; exact h0))]; exact h.live b hb
  · rw [upd_ne (fun z => hD (by rw [← z]; exact hp))]; exact (h.new p hp).1
  · have old := h.mu k p n hk hn
    have ne : p ≠ D := fun z => hD (by rw [← z]; exact List.mem_of_getElem? hk)
    exact old.up (Ex.refl _) (Ext.refl _) old.free fun o' ho => by rw [upd_ne ne]; exact ho
/-- the same state, seen from now on -/
def Ct.re (c : Ct) (G : Hp) (ps : List Addr) (H : Hp) : Ct := ⟨fun b => if b ∈ ps ∧ b ∉ c.own then none else H b, G, c.own, c.cm, c.ea⟩
theorem HS.re (h : HS K c μ G ps H) : HS K (c.re G ps H) μ G ps H := by
  refine ⟨Ex.refl _, fun b o hb g q => (by have g' : G b = none := g; rw [g'] at q; cases q), fun b o hb q => ?_, fun b hb => ?_, h.sub, h.mlen, h.nd, h.pre, fun p hp => ⟨(h.new p hp).1, ?_⟩, h.mu⟩
  · have q' : (if b ∈ ps ∧ b ∉ c.own then none else H b) = some o := q
    split at q'
    · cases q'
    · exact q'
  · have hb' : (if b ∈ ps ∧ b ∉ c.own then none else H b) ≠ none := hb
    split at hb'
    · exact absurd rfl hb'
    · exact hb'
  · show p ∈ c.own ∨ (if p ∈ ps ∧ p ∉ c.own then none else H p) = none
    by_cases z : p ∈ c.own
    · exact .inl z
    · exact .inr (if_pos ⟨hp, z⟩)
theorem HS.unre (h : HS K c μ G ps H) (k : HS K (c.re G ps H) μ' G2 qs H2) : HS K c μ' G2 qs H2 := by
  have at0 : ∀ {b : Addr}, c.H0 b ≠ none → b ∉ c.own → (c.re G ps H).H0 b = H b := fun {b} hb hn => by
    show (if b ∈ ps ∧ b ∉ c.own then none else H b) = H b
    refine if_neg fun z => ?_
    rcases (h.new b z.1).2 with w | w
    · exact z.2 w
    · exact hb w
  have at1 : ∀ {b : Addr}, c.H0 b ≠ none → (c.re G ps H).H0 b ≠ none := fun {b} hb => by
    by_cases z : b ∈ c.own
    · show (if b ∈ ps ∧ b ∉ c.own then none else H b) ≠ none
      rw [if_neg (fun w => w.2 z)]; exact h.live b hb
    · rw [at0 hb z]; exact h.live b hb
  refine ⟨h.ex.trans k.ex, fun b o hb g q => ?_, fun b o hb q => ?_, fun b hb => k.live b (at1 hb), k.sub, k.mlen, k.nd, k.pre, fun p hp => ⟨(k.new p hp).1, ?_⟩, k.mu⟩
  · cases z : G b with
    | none => exact k.fr b o (at1 hb) z q
    | some o' =>
      have z2 := k.ex b o' z
      rw [q] at z2; cases z2
      exact h.fr b o hb g z
  · refine k.keep b o hb ?_
    rw [at0 (by rw [q]; exact fun z => nomatch z) hb]
    exact h.keep b o hb q
  · rcases (k.new p hp).2 with w | w
    · exact .inl w
    · by_cases z : p ∈ c.own
      · exact .inl z
      · refine .inr ?_
        cases q : c.H0 p with
        | none => rfl
        | some o => exact absurd w (at1 (by rw [q]; exact fun z => nomatch z))
theorem St.re (S : St K c A G ps σ H) : St K (c.re G ps H) A G ps σ H := ⟨S.hs.re, S.len, S.sl⟩
theorem St.unre (S : St K c A G ps σ H) {σ2 : L2.St} (T : St K (c.re G ps H) A1 G2 qs σ2 H2) : St K c A1 G2 qs σ2 H2 := ⟨S.hs.unre T.hs, T.len, T.sl⟩
/-- an object that is no node stays through a stretch -/
theorem HS.stays {D : Addr} {o : HO} (h : HS K c μ G ps H) (k : HS K (c.re G ps H) μ' G2 qs H2) (hD : H D = some o) (hn : D ∉ ps) (hg : G D = none) (ho : ¬ TupL o) (h0 : c.H0 D = none) : H2 D = some o ∧ G2 D = none ∧ D ∉ qs := by
  have hown : D ∉ c.own := fun z => by obtain ⟨t, e⟩ := h.pre; exact hn (by rw [e]; exact List.mem_append_left _ z)
  have e0 : (c.re G ps H).H0 D = some o := by
    show (if D ∈ ps ∧ D ∉ c.own then none else H D) = some o
    rw [if_neg (fun z => hn z.1)]; exact hD
  have e1 := k.keep D o hown e0
  refine ⟨e1, ?_, fun z => ?_⟩
  · cases q : G2 D with
    | none => rfl
    | some o' =>
      have t := k.fr D o' (by rw [e0]; exact fun z => nomatch z) hg q
      have z := k.sub D o' q
      rw [e1] at z; cases z
      exact absurd t ho
  · rcases (k.new D z).2 with w | w
    · exact hown w
    · rw [e0] at w; cases w
end
end Py

set_option Elab.async false
set_option linter.all false
set_option maxRecDepth 100000
set_option maxHeartbeats 2000000
/-! PyH: comprehensions. -/
namespace Py
open PySem PySem.Spec PyProof.Rows L2
open Evl (Ex)
open Eng (dp_up dp_upAll dall_len dall_get dall_getV dall_app dall_set dp_int dp_str dp_bl dp_non dp_list dp_tup wE wT wA wS wB pe_w pt_w pa_w ps_w pss_w wE_of wT_of wA_of wS_of wB_of wE_mono wT_mono wA_mono)
/-- a clause's tests -/
def STs (X : Cx) (c : Ct) (ifs : List Expr) (A : AS) (o : Out Bool) : Prop := ∀ G ps σ H, St X.K c A G ps σ H → XOk X c o → Eng.wTs X ifs σ H (PostT X c G ps σ o)
theorem sts_nil {X : Cx} {c : Ct} {A : AS} : STs X c [] A (.ok true A) := fun G ps σ H S _ => Eng.wTs_of pts_nil ⟨A, rfl, G, ps, Ex.refl _, Ext.refl _, S⟩
theorem sts_one {X : Cx} {c : Ct} {A : AS} {t : Expr} {o : Out Bool} (h : STt X c t A o) : STs X c [t] A o := fun G ps σ H S x => Eng.wTs_of (pts_one pt_w) (h G ps σ H S x)
section
variable {X : Cx} {c : Ct} {A A1 A2 A0 : AS} {a b e tg it elt : Expr} {es ifs : List Expr} {pos p p2 : Pos} {o : Out SV} {G G1 G2 : Hp} {ps qs : List Addr} {σ : L2.St} {H H1 H2 : Hp}
theorem comGo_inv {tg : Tg} {vs : List Nat} {tests : M Bool} {elt : M SV} {r : Nat} {d : PyData} {ds acc : List PyData} {oo : Out (List PyData)} (h : comGo tg vs tests elt r (d :: ds) acc A = some oo) :
    ∃ ρ1, tgSet tg d A.ρ = some ρ1 ∧ ((∃ A1 sv A2 x A3, tests ⟨ρ1, A.μ⟩ = some (.ok true A1) ∧ elt A1 = some (.ok sv A2) ∧ toD r sv A2 = some (.ok x A3) ∧ comGo tg vs tests elt r ds (acc ++ [x]) ⟨wipeV A3.ρ vs, A3.μ⟩ = some oo) ∨
      (∃ A1, tests ⟨ρ1, A.μ⟩ = some (.ok false A1) ∧ comGo tg vs tests elt r ds acc ⟨wipeV A1.ρ vs, A1.μ⟩ = some oo)) := by
  unfold comGo at h
  cases h1 : tgSet tg d A.ρ with
  | none => rw [h1] at h; cases h
  | some ρ1 =>
    rw [h1] at h
    dsimp only at h
    refine ⟨ρ1, rfl, ?_⟩
    cases h2 : tests ⟨ρ1, A.μ⟩ with
    | none => rw [h2] at h; cases h
    | some o2 =>
      rw [h2] at h
      cases o2 with
      | ex C A1 => cases h
      | ok k A1 =>
        cases k with
        | false => exact .inr ⟨A1, rfl, h⟩
        | true =>
          dsimp only at h
          refine .inl ?_
          cases h3 : M.bind elt (toD r) A1 with
          | none => rw [h3] at h; cases h
          | some o3 =>
            rw [h3] at h
            cases o3 with
            | ex C A3 => cases h
            | ok x A3 =>
              rcases bind_inv h3 with ⟨sv, A2, h4, h5⟩ | ⟨C, A2, h4, h5⟩
              · exact ⟨A1, sv, A2, x, A3, rfl, h4, h5, h⟩
              · cases h5
theorem lst_notT {xs : List V} : ¬ TupL (.lst xs) := by
  rintro ⟨ys, z | ⟨ob, z⟩⟩ <;> cases z
theorem com_ok {scope : Scope} {tg' : Tg} {vs : List Nat} {tests : M Bool} {eltM : M SV} {ds acc : List PyData} {fr : Bool} (hI : SI X c tg it A (.ok ds A0)) (hz : ds.length ≤ 1000000) (hslots : ∀ i ∈ tg'.slots, i ∈ vs)
    (hT : ∀ (c' : Ct) (A : AS) (o : Out Bool), c'.own = c.own → c'.cm = c.cm → c'.ea = c.ea → tests A = some o → ∀ (s : Shared) (H0 : Hp) (C : Addr) (cl : List (Str × Addr)) (fp : List Addr), STs (X.blk s H0 scope (compEnvC scope cl C X.env) fp) c' ifs A o)
    (hE : ∀ (c' : Ct) (A : AS) (o : Out SV), c'.own = c.own → c'.cm = c.cm → c'.ea = c.ea → eltM A = some o → ∀ (s : Shared) (H0 : Hp) (C : Addr) (cl : List (Str × Addr)) (fp : List Addr), SE (X.blk s H0 scope (compEnvC scope cl C X.env) fp) c' elt A o)
    (run : comGo tg' vs tests eltM c.own.length ds [] ⟨wipeV A0.ρ vs, A0.μ⟩ = some (.ok acc A1)) (ho : alloc fr acc A1 = some o) (S : St X.K c A G ps σ H) {Q : VK} (hQ : ∀ v H', Post X c G ps σ o v H' → Q v H') :
    tLc (Eng.wI X tg it) (gTg X.K tg') (Eng.bT X scope ifs) (Eng.bE X scope elt) vs σ H Q :=
  Eng.wI_mono (hI G ps σ H S True.intro) fun J H1 ⟨ds', A0', e0, G1, ps1, ex1, xt1, S1, P⟩ D hD => by
    cases e0
    obtain ⟨d1, d2, d3, d4⟩ := S1.hs.n0 hD
    refine ⟨fun i m H' => m = ds.length - i ∧ i ≤ ds.length ∧ ∃ ρi μi acc0, comGo tg' vs tests eltM c.own.length (ds.drop i) acc0 ⟨wipeV ρi vs, μi⟩ = some (.ok acc A1) ∧ acc0.length ≤ i ∧ ∃ Gi qs xs, Ex G1 Gi ∧ Ext ps1 qs ∧ St X.K c ⟨wipeV ρi vs, μi⟩ Gi qs (L2.wipe σ vs) H' ∧ D ∉ qs ∧ Gi D = none ∧ H' D = some (.lst xs) ∧ DpAll X.K Gi xs acc0,
      ⟨_, rfl, Nat.zero_le _, A0.ρ, A0.μ, [], run, Nat.zero_le _, G1, ps1, [], Ex.refl _, Ext.refl _, ?_, d1, d4, upd_same, .nil⟩, ?_⟩
    · exact ⟨(S1.wipe vs).hs.off d1 d2 d4, (S1.wipe vs).len, (S1.wipe vs).sl⟩
    · rintro i m H' ⟨rfl, hi, ρi, μi, acc0, hrun, hacc, Gi, qs, xs, exi, xti, Si, hDq, hGD, hHD, hda⟩
      by_cases hlt : i < ds.length
      · refine .inr ⟨P.go i H' (exi.trans Si.hs.sub) hlt, fun H'' => i + 1 ≤ ds.length ∧ ∃ ρi μi acc0, comGo tg' vs tests eltM c.own.length (ds.drop (i + 1)) acc0 ⟨wipeV ρi vs, μi⟩ = some (.ok acc A1) ∧ acc0.length ≤ i + 1 ∧ ∃ Gi qs xs, Ex G1 Gi ∧ Ext ps1 qs ∧ St X.K c ⟨wipeV ρi vs, μi⟩ Gi qs (L2.wipe σ vs) H'' ∧ D ∉ qs ∧ Gi D = none ∧ H'' D = some (.lst xs) ∧ DpAll X.K Gi xs acc0,
          fun H'' q => ⟨ds.length - (i + 1), by omega, rfl, q⟩, fun x H2 y => ?_⟩
        rw [List.drop_eq_getElem_cons hlt] at hrun
        obtain ⟨ρ1, ht, hturn⟩ := comGo_inv hrun
        obtain ⟨G2, d, ex2, S2', hd, rd⟩ := P.next Si.re exi hlt y
        have ed : ds[i] = d := by rw [List.getElem?_eq_getElem hlt] at hd; exact Option.some.inj hd
        rw [ed] at ht
        obtain ⟨hD2, hG2, hq2⟩ := Si.hs.stays S2'.hs hHD hDq hGD lst_notT d2
        have S2 := Si.unre S2'
        obtain ⟨σ2, S3, hw, hk⟩ := tg_ok ht S2 rd
        have hw2 : L2.wipe σ2 vs = L2.wipe σ vs := by rw [hw vs hslots, Eng.wipe_idem]
        refine hk _ ⟨hw2, fun s0 H0 C cl fp => ?_⟩
        have da2 := dp_upAll ex2 _ hda
        rcases hturn with ⟨B1, sv, B2, x2, B3, h1, h2, h3, h4⟩ | ⟨B1, h1, h4⟩
        · refine Eng.wTs_mono (hT (c.re G2 qs H2) _ _ rfl rfl rfl h1 s0 H0 C cl fp G2 qs σ2 H2 S3.re True.intro) fun k H3 ⟨B1', eB, G3, qs3, ex3, xt3, T3⟩ => ?_
          cases eB
          rw [if_pos rfl]
          intro s1 H01 C1 cl1 fp1
          obtain ⟨hD3, hG3, hq3⟩ := S3.hs.stays T3.hs hD2 hq2 hG2 lst_notT d2
          have S4 := S3.unre T3
          refine wE_mono (hE (c.re G3 qs3 H3) _ _ rfl rfl rfl h2 s1 H01 C1 cl1 fp1 G3 qs3 σ2 H3 S4.re True.intro) fun v H4 ⟨sv', B2', eB, G4, qs4, ex4, xt4, T4, rv⟩ => ?_
          cases eB
          obtain ⟨x3, B3', eB, G5, ex5, T5, rx⟩ := toD_ok (c := c.re G3 qs3 H3) T4 rv h3
          cases eB
          obtain ⟨hD5, hG5, hq5⟩ := S4.hs.stays T5.hs hD3 hq3 hG3 lst_notT d2
          have S5 := S4.unre T5
          have da5 := dp_upAll (ex3.trans (ex4.trans ex5)) _ da2
          refine ⟨xs, hD5, ?_, hlt, _, _, _, h4, by rw [List.length_append]; exact Nat.add_le_add_right hacc 1, G5, qs4, _, exi.trans (ex2.trans (ex3.trans (ex4.trans ex5))), xti.trans (xt3.trans xt4), ?_, hq5, hG5, upd_same, dall_app da5 (.cons rx .nil)⟩
          · rw [dall_len hda]
            have : sizeLine = 16777216 := sizeLine_eq
            omega
          · have z := S5.wipe vs
            rw [hw2] at z
            exact ⟨z.hs.off hq5 d2 hG5, z.len, z.sl⟩
        · refine Eng.wTs_mono (hT (c.re G2 qs H2) _ _ rfl rfl rfl h1 s0 H0 C cl fp G2 qs σ2 H2 S3.re True.intro) fun k H3 ⟨B1', eB, G3, qs3, ex3, xt3, T3⟩ => ?_
          cases eB
          rw [if_neg Bool.false_ne_true]
          obtain ⟨hD3, hG3, hq3⟩ := S3.hs.stays T3.hs hD2 hq2 hG2 lst_notT d2
          have S4 := S3.unre T3
          have z := S4.wipe vs
          rw [hw2] at z
          exact ⟨hlt, _, _, _, h4, Nat.le_succ_of_le hacc, G3, qs3, xs, exi.trans (ex2.trans ex3), xti.trans xt3, z, hq3, hG3, hD3, dp_upAll ex3 _ da2⟩
      · have ei : i = ds.length := by omega
        subst ei
        refine .inl ⟨P.stop _ H' (exi.trans Si.hs.sub) (Nat.le_refl _), ?_⟩
        rw [List.drop_length] at hrun
        have er := ret_inv hrun
        cases er
        have hzacc := alloc_len ho
        have Su := Si.unwipe
        unfold alloc at ho
        rw [if_pos hzacc] at ho
        split at ho
        · cases ho
          have k2 : HS X.K c (μi ++ [.lst acc]) Gi (qs ++ [D]) H' := Su.hs.adopt hDq d2 (by rw [hHD]; exact fun z => nomatch z) ⟨hGD, xs, hHD, hda⟩
          exact hQ _ _ ⟨_, _, rfl, Gi, qs ++ [D], ex1.trans exi, xt1.trans (xti.trans ⟨[D], rfl⟩), Su.on (Ex.refl _) ⟨[D], rfl⟩ k2, ⟨D, by rw [← Su.hs.mlen]; simp, rfl⟩⟩
        · cases ho
          obtain ⟨k2, e5⟩ := Su.hs.still hDq d2 hGD hHD
          exact hQ _ _ ⟨_, _, rfl, _, qs, ex1.trans (exi.trans e5), xt1.trans xti, Su.on e5 (Ext.refl _) k2, (.lst (.inl (.inl upd_same)) (dp_upAll e5 _ hda) : Dp _ _ _ _)⟩
end
end Py

set_option Elab.async false
set_option linter.all false
set_option maxRecDepth 100000
set_option maxHeartbeats 2000000
/-! PyI: from the syntax to terms. -/
namespace Py
open PySem PySem.Spec PyProof.Rows L2
open Evl (Ex)
structure CE where
  N : List Str
  sc : Scope
  blk : Option Scope
  bl : List Str
  fns : List (Str × Nat)
  cs : List (Str × PyData)
  /-- not within an except suite -/
  calm : Bool
  /-- exception classes -/
  xs : List Str
  /-- names whose lists are one's own; defs that return lists -/
  ms : List Str
  ls : List Str
  /-- what is of no use behind a loop, by its line -/
  wl : List (Nat × List Str)
def visB (sc : Scope) (x : Str) : Bool := match sc.names.lookup x with
  | some .local => true
  | some .cell => true
  | some .free => true
  | _ => false
def locB (sc : Scope) (x : Str) : Bool := match sc.names.lookup x with
  | some .local => true
  | some .cell => true
  | _ => false
def CE.gl (E : CE) (x : Str) : Bool := decide (E.sc.names.lookup x = some .globalImplicit)
def CE.fnOk (E : CE) (x : Str) : Bool := match E.blk with
  | none => true
  | some s => s.names.lookup x == some .cell
def okN (x : Str) : Bool := !(x == ("__debug__" : Str)) && !(x == ("__classdict__" : Str))
def notStar : Expr → Bool
  | .Starred .. => false
  | _ => true
def notSlice : Expr → Bool
  | .Slice .. => false
  | _ => true
def notCall : Expr → Bool
  | .Call .. => false
  | _ => true
def notSet : Expr → Bool
  | .Set .. => false
  | _ => true
def idxN (N : List Str) (x : Str) : Option Nat := let i := N.idxOf x; if N[i]? = some x then some i else none
def bfs : List Bf := [.len, .abs, .int, .min, .max, .sum, .any, .all, .list, .sorted, .tuple]
def bfOf (x : Str) : Option Bf := bfs.find? fun b => bfName b = x
def tyOf (x : Str) : Option String := ["int", "bool", "str", "list", "tuple"].find? fun t => Str.ofString t = x
/-- a built-in that is not shadowed -/
def CE.blt (E : CE) (x : Str) : Bool := decide (x ∈ E.bl) && E.gl x
def compL (f : Expr → Option Tm) : List Expr → Option Tms
  | [] => some .nil
  | e :: es => if notStar e = true then match f e, compL f es with
      | some t, some ts => some (.cons t ts)
      | _, _ => none
    else none
/-- a target: its places -/
def slotOf (E : CE) (e : Expr) : Option Nat := match e with
  | .Name x _ => if locB E.sc x && (E.fnOk x || decide (E.sc.names.lookup x = some .local)) then idxN E.N x else none
  | _ => none
def slotsOf (E : CE) : List Expr → Option (List Nat)
  | [] => some []
  | e :: es => match slotOf E e, slotsOf E es with
    | some i, some is => some (i :: is)
    | _, _ => none
def compG (E : CE) (e : Expr) : Option Tg := match e with
  | .Tuple es _ _ => if E.calm then (slotsOf E es).map .tup else none
  | e => (slotOf E e).map .nm
def namesOf (e : Expr) : List Str := match e with
  | .Name x _ => [x]
  | .Tuple es _ _ => es.filterMap fun e => match e with | .Name x _ => some x | _ => none
  | _ => []
def isTup : Expr → Bool
  | .Tuple .. => true
  | _ => false
def compO (f : Expr → Option Tm) : Option Expr → Option Tms
  | none => some .nil
  | some e => (f e).map fun t => .cons t .nil
def compIt (f : Expr → Option Tm) (E : CE) (tg it : Expr) : Option Itr := match it with
  | .Call (.Name x _) args [] _ => 
    if x = "range" then (if E.blt x then match args with
      | [a] => if notStar a then (f a).map .rng else none
      | [a, b] => if notStar a && notStar b then match f a, f b with
        | some t, some u => some (.rng2 t u)
        | _, _ => none else none
      | _ => none else none)
    else if x = "enumerate" then (if E.blt x && isTup tg then match args with
      | [a] => if notStar a then (f a).map .enu else none
      | _ => none else none)
    else if x = "zip" then (if E.blt x && isTup tg then match args with
      | [a, b] => if notStar a && notStar b then match f a, f b with
        | some t, some u => some (.zip t u)
        | _, _ => none else none
      | _ => none else none)
    else (f it).map .seq
  | it => if notSet it then (f it).map .seq else none
def constD : Const → Option PyData
  | .none => some .none
  | .bool b => some (.bool b)
  | .int i => some (.int i)
  | .str s => some (.str s)
  | _ => none
def listy (E : CE) : Expr → Bool
  | .List .. => true
  | .ListComp .. => true
  | .Name x _ => decide (x ∈ E.ms)
  | .Call (.Name x _) _ _ _ => x == ("list" : Str) || x == ("sorted" : Str) || decide (x ∈ E.ls)
  | .BinOp a .Add b _ => listy E a || listy E b
  | .BinOp a .Mult _ _ => listy E a
  | _ => false
def comp : Nat → CE → Bool → Expr → Option Tm
  | 0, _, _, _ => none
  | n + 1, E, fr, e => match e with
    | .Constant c _ _ => if fr then none else (constD c).map .dat
    | .Name x _ => if okN x then (if visB E.sc x then (idxN E.N x).map .var else if E.gl x then (E.cs.lookup x).map .dat else none) else none
    | .BinOp a op b _ => if op = .Add ∧ (listy E a || listy E b) = true then (match comp n E true a, comp n E true b with
        | some t, some u => some (.cat fr t u)
        | _, _ => none)
      else if op = .Mult ∧ listy E a = true then (match comp n E true a, comp n E false b with
        | some t, some u => some (.rep fr t u)
        | _, _ => none)
      else if fr then none else match comp n E false a, comp n E false b with
        | some t, some u => some (.bin op t u)
        | _, _ => none
    | .UnaryOp op a _ => if fr then none else match comp n E false a with
      | some t => if op = .Not then some (.not t) else some (.un op t)
      | none => none
    | .Compare a ops cs _ => if fr then none else match ops, cs with
      | [op], [b] => if behindInMarks op b then none else match comp n E false a, comp n E false b with
        | some t, some u => some (.cmp op t u)
        | _, _ => none
      | [o1, o2], [b, d] => if lastMarks [o1, o2] [b, d] then none else match comp n E false a, comp n E false b, comp n E false d with
        | some t, some u, some v => some (.chn o1 o2 t u v)
        | _, _, _ => none
      | _, _ => none
    | .BoolOp op es pos => if fr then none else match es with
      | [] => none
      | [a] => comp n E false a
      | a :: b :: rest => match comp n E false a, comp n E false (.BoolOp op (b :: rest) pos) with
        | some t, some u => match op with
          | .And => some (.and t u)
          | .Or => some (.or t u)
        | _, _ => none
    | .IfExp t a b _ => match comp n E false t, comp n E fr a, comp n E fr b with
      | some t, some u, some v => some (.ite t u v)
      | _, _, _ => none
    | .Tuple es _ _ => if fr then none else if es.length ≤ 1000000 then (compL (comp n E false) es).map .tup else none
    | .List es _ => (compL (comp n E false) es).map (.lst fr)
    | .Subscript a s _ => if fr then none else match s with
      | .Slice lo hi none _ => match comp n E false a, compO (comp n E false) lo, compO (comp n E false) hi with
        | some t, some l, some h => some (.slc t l h)
        | _, _, _ => none
      | b => if notSlice b then match comp n E false a, comp n E false b with
        | some t, some u => some (.idx t u)
        | _, _ => none else none
    | .Call f args kws cp => match f with
      | .Name x _ => match kws with
        | [] => if x = "isinstance" then (if fr then none else match args with
            | [a, .Name t _] => if E.xs.contains t then (if E.blt x && E.gl t && !(t == ("__debug__" : Str)) then (match a with
                | .Name e _ => if okN e && visB E.sc e then (idxN E.N e).map fun i => .isx i t else none
                | _ => none) else none)
              else if E.blt x && notStar a then match comp n E false a, tyOf t with
              | some u, some T => if E.blt t then some (.isi u T) else none
              | _, _ => none else none
            | _ => none)
          else if E.blt x then if !E.calm then none else (match bfOf x with
            | some b => match args with
              | [] => none
              | e :: es => (compL (comp n E false) (e :: es)).map (.bi b fr)
            | none => none)
          else if E.gl x && !(x == ("__debug__" : Str)) then (match E.fns.lookup x with
            | some m => match args with
              | [] => none
              | e :: es => (compL (comp n E false) (e :: es)).map (.call x m fr)
            | none => none)
          else none
        | [⟨some r, .Constant (.bool true) _ _, _⟩] => if x = "sorted" ∧ r = "reverse" ∧ E.calm = true then (if E.blt x then match args with
            | [a] => if notStar a then (comp n E false a).map (.sortr fr) else none
            | _ => none else none) else none
        | _ => none
      | .Attribute v m ap => if fr then none else match args, kws with
          | [], [] => if m = "bit_length" ∧ notCall v = true ∧ (ap.endLine == cp.line) = true then (comp n E false v).map .blen else none
          | [.Constant (.str s) _ _], [] => match v with
            | .JoinedStr [.FormattedValue w (-1) (some (.JoinedStr [.Constant (.str b) _ _] _)) _] _ => if m = "count" ∧ s = "1" ∧ b = "b" ∧ (ap.endLine == cp.line) = true then (comp n E false w).map .bits else none
            | _ => none
          | _, _ => none
      | _ => none
    | .ListComp elt gens scope _ => match gens with
      | [⟨tg, it, ifs, 0⟩] =>
        let E' : CE := { E with sc := relS scope E.sc, blk := some scope }
        let own := (namesOf tg).filterMap fun x => (idxN E.N x).map fun i => (x, i)
        if blkC E.N E.sc scope own && E.calm then match compIt (comp n E false) E tg it, compG E' tg, compL (comp n E' false) ifs, comp n E' false elt with
          | some i, some g, some ts, some t => if g.slots.all (fun i => decide (i ∈ own.map (·.2))) && decide (ifs.length ≤ 1) then some (.com fr t g i ts (own.map (·.2))) else none
          | _, _, _, _ => none
        else none
      | _ => none
    | _ => none
end Py

set_option Elab.async false
set_option linter.all false
set_option maxRecDepth 100000
set_option maxHeartbeats 2000000
/-! PyJ: what is compiled is right. -/
namespace Py
open PySem PySem.Spec PyProof.Rows L2
open Evl (Ex)
open Eng (dp_up dp_upAll dall_len dall_get dall_getV dall_app dall_set dp_int dp_str dp_bl dp_non dp_list dp_tup wE wT wA wS wB pe_w pt_w pa_w ps_w pss_w wE_of wT_of wA_of wS_of wB_of wE_mono wT_mono wA_mono)
/-- the context fits -/
structure Hy (X : Cx) (c : Ct) (E : CE) (Γ : Gm) : Prop where
  hN : X.N = E.N
  nd : E.N.Nodup
  sc : X.env.scope = E.sc
  fn : ∀ x, E.fnOk x = true → X.fn x = true
  calm : E.calm = true → X.calm = true
  cea : E.calm = true → c.ea = none
  isx : ∀ C D a b, c.ea = some (D, a) → Γ.sub D C = some b → ∃ cC, X.mg C = some (.ref cC) ∧ CallR X (.builtin "isinstance") (fun xs H Q => xs = [.ref a, .ref cC] ∧ Q (.bl b) H)
  hu : X.A.units + 65 < cLine
  bl : ∀ x ∈ E.bl, X.mg x = none
  cs : ∀ x d, E.cs.lookup x = some d → ∃ v u, X.mg x = some u ∧ RelV v u ∧ Fla X.K v d
  fns : ∀ x m, E.fns.lookup x = some m → ∃ lev, Cal X.prog X.w X.K c.cm X.mg X.base lev x (Γ.fn x) ∧ Room lev X.A
  r : c.own.length = Γ.r
section
variable {X : Cx} {c : Ct} {E : CE} {Γ : Gm} {A A1 : AS} {e a b : Expr} {es : List Expr}
theorem star_each (h : notStar e = true) (env : Env) : starEach (e :: es) env = (false, eval e env) :: starEach es env := by
  cases e <;> first | rfl | cases h
theorem star_none : ∀ {es : List Expr} {env : Env} {pos : Pos}, (∀ e ∈ es, notStar e = true) → (backTo pos (starEach es env)).any (·.1) = false
  | [], _, _, _ => rfl
  | e :: es, env, pos, h => by
    rw [star_each (h e List.mem_cons_self)]
    show (false || (backTo pos (starEach es env)).any (·.1)) = false
    rw [star_none fun x hx => h x (List.mem_cons_of_mem _ hx)]; rfl
theorem star_one (h : notStar a = true) (env : Env) : starEach [a] env = [(false, eval a env)] := star_each h env
theorem okN_ok {x : Str} (h : okN x = true) : (x == ("__debug__" : Str)) = false ∧ (x == ("__classdict__" : Str)) = false := by
  unfold okN at h
  rw [Bool.and_eq_true] at h
  exact ⟨by simpa using h.1, by simpa using h.2⟩
theorem vis_ok {sc : Scope} {x : Str} (h : visB sc x = true) : Vis sc x := by
  unfold visB at h
  split at h
  · exact .inl ‹_›
  · exact .inr (.inl ‹_›)
  · exact .inr (.inr ‹_›)
  · cases h
theorem loc_ok {sc : Scope} {x : Str} (h : locB sc x = true) : Loc sc x := by
  unfold locB at h
  split at h
  · exact .inl ‹_›
  · exact .inr ‹_›
  · cases h
theorem Hy.gl (H : Hy X c E Γ) {x : Str} (h : E.gl x = true) : Gl X x := by
  have z : E.sc.names.lookup x = some .globalImplicit := of_decide_eq_true h
  show X.env.scope.names.lookup x = _
  rw [H.sc]; exact z
theorem Hy.blt (H : Hy X c E Γ) {x : Str} (h : E.blt x = true) : X.mg x = none ∧ Gl X x := by
  unfold CE.blt at h
  rw [Bool.and_eq_true] at h
  exact ⟨H.bl x (of_decide_eq_true h.1), H.gl h.2⟩
theorem idxN_ok {N : List Str} {x : Str} {i : Nat} (h : idxN N x = some i) : N[i]? = some x := by
  unfold idxN at h
  dsimp only at h
  split at h
  · cases h; assumption
  · cases h
theorem bfOf_ok {x : Str} {b : Bf} (h : bfOf x = some b) : x = bfName b := by
  have := List.find?_some h
  exact (of_decide_eq_true this).symm
theorem tyOf_ok {x : Str} {T : String} (h : tyOf x = some T) : x = Str.ofString T ∧ T ∈ ["int", "bool", "str", "list", "tuple"] := by
  unfold tyOf at h
  have z := List.find?_some h
  exact ⟨(of_decide_eq_true z).symm, List.mem_of_find?_eq_some h⟩
/-- right as a value, right as a test -/
def Good (X : Cx) (c : Ct) (Γ : Gm) (e : Expr) (t : Tm) : Prop := (∀ A o, ev Γ t A = some o → SE X c e A o) ∧ (∀ A o, ((ev Γ t).bind truM) A = some o → STt X c e A o)
theorem good_val {t : Tm} (h : ∀ A o, ev Γ t A = some o → SE X c e A o) (he : ∀ whole, isTrue e X.env whole = (do let v ← whole; standAt e.pos; holding [v] (truthy v))) : Good X c Γ e t := ⟨h, fun A o q => by
  rcases bind_inv q with ⟨x, A1, h1, h2⟩ | ⟨C, A1, h1, rfl⟩
  · obtain ⟨d, k, h3, h4, rfl⟩ := tru_inv h2
    exact st_val (h _ _ h1) h3 h4 he
  · exact st_valX (h _ _ h1) he⟩
theorem good_bin {op : Operator} {t u : Tm} {pos : Pos} (ha : Good X c Γ a t) (hb : Good X c Γ b u) : Good X c Γ (.BinOp a op b pos) (.bin op t u) := good_val (fun A o q => by
  have q : ((ev Γ t).bind fun x => (ev Γ u).bind fun y => (view x).bind fun d => (view y).bind fun e => (M.of (binD op d e)).bind fun r => M.ret (.dat r)) A = some o := q
  rcases bind_inv q with ⟨x, A1, h1, q⟩ | ⟨C, A1, h1, rfl⟩
  · rcases bind_inv q with ⟨y, A2, h2, q⟩ | ⟨C, A2, h2, rfl⟩
    · obtain ⟨d, h3, q⟩ := vbind q
      obtain ⟨d2, h4, q⟩ := vbind q
      obtain ⟨r, h5, q⟩ := obind q
      cases (ret_inv q)
      exact se_bin (ha.1 _ _ h1) (hb.1 _ _ h2) h3 h4 h5
    · exact se_binY (ha.1 _ _ h1) (hb.1 _ _ h2)
  · exact se_binX (ha.1 _ _ h1)) (fun _ => rfl)
theorem good_un {op : UnaryOp} {t : Tm} {pos : Pos} (ho : op ≠ .Not) (ha : Good X c Γ a t) : Good X c Γ (.UnaryOp op a pos) (.un op t) := good_val (fun A o q => by
  have q : ((ev Γ t).bind fun x => (view x).bind fun d => (M.of (unD op d)).bind fun r => M.ret (.dat r)) A = some o := q
  rcases bind_inv q with ⟨x, A1, h1, q⟩ | ⟨C, A1, h1, rfl⟩
  · obtain ⟨d, h3, q⟩ := vbind q
    obtain ⟨r, h5, q⟩ := obind q
    cases (ret_inv q)
    exact se_un (ha.1 _ _ h1) h3 h5
  · exact se_unX (ha.1 _ _ h1)) (fun _ => by cases op <;> first | rfl | exact absurd rfl ho)
theorem good_not {t : Tm} {pos : Pos} (ha : Good X c Γ a t) : Good X c Γ (.UnaryOp .Not a pos) (.not t) := ⟨fun A o q => by
  have q : (((ev Γ t).bind truM).bind fun k => M.ret (.dat (.bool (!k)))) A = some o := q
  rcases bind_inv q with ⟨k, A1, h1, q⟩ | ⟨C, A1, h1, rfl⟩
  · cases (ret_inv q)
    rcases bind_inv h1 with ⟨x, A2, h2, h3⟩ | ⟨C, A2, h2, h3⟩
    · obtain ⟨d, k', h4, h5, h6⟩ := tru_inv h3
      cases h6
      exact se_not (ha.1 _ _ h2) h4 h5
    · cases h3
  · rcases bind_inv h1 with ⟨x, A2, h2, h3⟩ | ⟨C, A2, h2, h3⟩
    · obtain ⟨d, k', h4, h5, h6⟩ := tru_inv h3
      cases h6
    · cases h3
      exact se_notX (ha.1 _ _ h2), fun A o q => by
  have q : ((((ev Γ t).bind truM).bind fun k => M.ret (.dat (.bool (!k)))).bind truM) A = some o := q
  rcases bind_inv q with ⟨x, A1, h1, q⟩ | ⟨C, A1, h1, rfl⟩
  · rcases bind_inv h1 with ⟨k, A2, h2, h3⟩ | ⟨C, A2, h2, h3⟩
    · cases (ret_inv h3)
      obtain ⟨d, k', h4, h5, rfl⟩ := tru_inv q
      cases h4
      cases h5
      exact st_not (o := .ok k A1) (ha.2 _ _ h2)
    · cases h3
  · rcases bind_inv h1 with ⟨k, A2, h2, h3⟩ | ⟨C, A2, h2, h3⟩
    · cases (ret_inv h3)
    · cases h3
      exact st_not (o := .ex C A1) (ha.2 _ _ h2)⟩
theorem cmp_cases {op : CmpOp} {t u : Tm} {o : Out SV} (q : ev Γ (.cmp op t u) A = some o) : (∃ x y d1 d2 k A1 A2, ev Γ t A = some (.ok x A1) ∧ ev Γ u A1 = some (.ok y A2) ∧ viewOf A2.μ x = some d1 ∧ viewOf A2.μ y = some d2 ∧ cmpD op d1 d2 = some k ∧ o = .ok (.dat (.bool k)) A2) ∨
    (∃ C A1, ev Γ t A = some (.ex C A1) ∧ o = .ex C A1) ∨ (∃ x C A1 A2, ev Γ t A = some (.ok x A1) ∧ ev Γ u A1 = some (.ex C A2) ∧ o = .ex C A2) := by
  have q : ((ev Γ t).bind fun x => (ev Γ u).bind fun y => (view x).bind fun d => (view y).bind fun e => (M.of (cmpD op d e)).bind fun r => M.ret (.dat (.bool r))) A = some o := q
  rcases bind_inv q with ⟨x, A1, h1, q⟩ | ⟨C, A1, h1, rfl⟩
  · rcases bind_inv q with ⟨y, A2, h2, q⟩ | ⟨C, A2, h2, rfl⟩
    · obtain ⟨d, h3, q⟩ := vbind q
      obtain ⟨d2, h4, q⟩ := vbind q
      obtain ⟨r, h5, q⟩ := obind q
      exact .inl ⟨x, y, d, d2, r, A1, A2, h1, h2, h3, h4, h5, ret_inv q⟩
    · exact .inr (.inr ⟨x, C, A1, A2, h1, h2, rfl⟩)
  · exact .inr (.inl ⟨C, A1, h1, rfl⟩)
theorem good_cmp {op : CmpOp} {t u : Tm} {pos : Pos} (hu : X.A.units + 65 < cLine) (hm : behindInMarks op b = false) (ha : Good X c Γ a t) (hb : Good X c Γ b u) : Good X c Γ (.Compare a [op] [b] pos) (.cmp op t u) := ⟨fun A o q => by
  rcases cmp_cases q with ⟨x, y, d1, d2, k, A1, A2, h1, h2, h3, h4, h5, rfl⟩ | ⟨C, A1, h1, rfl⟩ | ⟨x, C, A1, A2, h1, h2, rfl⟩
  · exact se_cmp hu (ha.1 _ _ h1) (hb.1 _ _ h2) h3 h4 h5 hm
  · exact se_cmpX (ha.1 _ _ h1) hm
  · exact se_cmpY (ha.1 _ _ h1) (hb.1 _ _ h2) hm, fun A o q => by
  rcases bind_inv q with ⟨z, A3, h0, q⟩ | ⟨C, A3, h0, rfl⟩
  · obtain ⟨d, k, e1, e2, rfl⟩ := tru_inv q
    rcases cmp_cases h0 with ⟨x, y, d1, d2, k, A1, A2, h1, h2, h3, h4, h5, e⟩ | ⟨C, A1, h1, e⟩ | ⟨x, C, A1, A2, h1, h2, e⟩
    · cases e; cases e1; cases e2
      exact st_cmp hu (ha.1 _ _ h1) (hb.1 _ _ h2) h3 h4 h5 hm
    · cases e
    · cases e
  · rcases cmp_cases h0 with ⟨x, y, d1, d2, k, A1, A2, h1, h2, h3, h4, h5, e⟩ | ⟨C, A1, h1, e⟩ | ⟨x, C, A1, A2, h1, h2, e⟩
    · cases e
    · cases e; exact st_cmpX (ha.1 _ _ h1) hm
    · cases e; exact st_cmpY (ha.1 _ _ h1) (hb.1 _ _ h2) hm⟩
/-- right within and, or -/
def GoodW (X : Cx) (c : Ct) (Γ : Gm) (e : Expr) (t : Tm) : Prop := ∀ A o, ((ev Γ t).bind truM) A = some o → SW X c e A o
theorem good_and {t u : Tm} {rest : List Expr} {pos : Pos} (ha : Good X c Γ a t) (hb : Good X c Γ (.BoolOp .And (b :: rest) pos) u) (hw : GoodW X c Γ (.BoolOp .And (b :: rest) pos) u) : Good X c Γ (.BoolOp .And (a :: b :: rest) pos) (.and t u) ∧ GoodW X c Γ (.BoolOp .And (a :: b :: rest) pos) (.and t u) := by
  have inv : ∀ {A o}, ev Γ (.and t u) A = some o → (∃ x d k A1, ev Γ t A = some (.ok x A1) ∧ viewOf A1.μ x = some d ∧ truD d = some k ∧ ((k = true ∧ ev Γ u A1 = some o) ∨ (k = false ∧ o = .ok x A1))) ∨ (∃ C A1, ev Γ t A = some (.ex C A1) ∧ o = .ex C A1) := fun {A o} q => by
    have q : ((ev Γ t).bind fun x => (truM x).bind fun k => match k with
      | true => ev Γ u
      | false => M.ret x) A = some o := q
    rcases bind_inv q with ⟨x, A1, h1, q⟩ | ⟨C, A1, h1, rfl⟩
    · obtain ⟨d, k, h2, h3, q⟩ := tbind q
      refine .inl ⟨x, d, k, A1, h1, h2, h3, ?_⟩
      cases k with
      | true => exact .inl ⟨rfl, q⟩
      | false => exact .inr ⟨rfl, ret_inv q⟩
    · exact .inr ⟨C, A1, h1, rfl⟩
  have wpart : GoodW X c Γ (.BoolOp .And (a :: b :: rest) pos) (.and t u) := fun A o q => by
    rcases bind_inv q with ⟨z, A3, h0, q⟩ | ⟨C, A3, h0, rfl⟩
    · rcases inv h0 with ⟨x, d, k, A1, h1, h2, h3, hh⟩ | ⟨C, A1, h1, e⟩
      · have st : STt X c a A (.ok k A1) := ha.2 _ _ (by unfold M.bind; rw [h1]; show truM x A1 = _; unfold truM M.bind view M.of; dsimp only; rw [h2]; dsimp only; rw [h3])
        rcases hh with ⟨rfl, h4⟩ | ⟨rfl, e⟩
        · exact sw_and st (fun _ => hw _ _ (by unfold M.bind; rw [h4]; exact q)) (fun z => nomatch z)
        · cases e
          obtain ⟨d', k', e1, e2, rfl⟩ := tru_inv q
          rw [h2] at e1; cases e1; rw [h3] at e2; cases e2
          exact sw_and st (fun z => nomatch z) (fun _ => rfl)
      · cases e
    · rcases inv h0 with ⟨x, d, k, A1, h1, h2, h3, hh⟩ | ⟨C', A1, h1, e⟩
      · have st : STt X c a A (.ok k A1) := ha.2 _ _ (by unfold M.bind; rw [h1]; show truM x A1 = _; unfold truM M.bind view M.of; dsimp only; rw [h2]; dsimp only; rw [h3])
        rcases hh with ⟨rfl, h4⟩ | ⟨rfl, e⟩
        · exact sw_and st (fun _ => hw _ _ (by unfold M.bind; rw [h4])) (fun z => nomatch z)
        · cases e
      · cases e
        exact sw_andX (ha.2 _ _ (by unfold M.bind; rw [h1]))
  refine ⟨⟨fun A o q => ?_, fun A o q => sw_st (wpart A o q)⟩, wpart⟩
  rcases inv q with ⟨x, d, k, A1, h1, h2, h3, hh⟩ | ⟨C, A1, h1, rfl⟩
  · rcases hh with ⟨rfl, h4⟩ | ⟨rfl, rfl⟩
    · exact se_and (ha.1 _ _ h1) h2 h3 (fun _ => hb.1 _ _ h4) (fun z => nomatch z)
    · exact se_and (ha.1 _ _ h1) h2 h3 (fun z => nomatch z) (fun _ => rfl)
  · exact se_andX (ha.1 _ _ h1)
theorem good_or {t u : Tm} {rest : List Expr} {pos : Pos} (ha : Good X c Γ a t) (hb : Good X c Γ (.BoolOp .Or (b :: rest) pos) u) (hw : GoodW X c Γ (.BoolOp .Or (b :: rest) pos) u) : Good X c Γ (.BoolOp .Or (a :: b :: rest) pos) (.or t u) ∧ GoodW X c Γ (.BoolOp .Or (a :: b :: rest) pos) (.or t u) := by
  have inv : ∀ {A o}, ev Γ (.or t u) A = some o → (∃ x d k A1, ev Γ t A = some (.ok x A1) ∧ viewOf A1.μ x = some d ∧ truD d = some k ∧ ((k = false ∧ ev Γ u A1 = some o) ∨ (k = true ∧ o = .ok x A1))) ∨ (∃ C A1, ev Γ t A = some (.ex C A1) ∧ o = .ex C A1) := fun {A o} q => by
    have q : ((ev Γ t).bind fun x => (truM x).bind fun k => match k with
      | true => M.ret x
      | false => ev Γ u) A = some o := q
    rcases bind_inv q with ⟨x, A1, h1, q⟩ | ⟨C, A1, h1, rfl⟩
    · obtain ⟨d, k, h2, h3, q⟩ := tbind q
      refine .inl ⟨x, d, k, A1, h1, h2, h3, ?_⟩
      cases k with
      | false => exact .inl ⟨rfl, q⟩
      | true => exact .inr ⟨rfl, ret_inv q⟩
    · exact .inr ⟨C, A1, h1, rfl⟩
  have wpart : GoodW X c Γ (.BoolOp .Or (a :: b :: rest) pos) (.or t u) := fun A o q => by
    rcases bind_inv q with ⟨z, A3, h0, q⟩ | ⟨C, A3, h0, rfl⟩
    · rcases inv h0 with ⟨x, d, k, A1, h1, h2, h3, hh⟩ | ⟨C, A1, h1, e⟩
      · have st : STt X c a A (.ok k A1) := ha.2 _ _ (by unfold M.bind; rw [h1]; show truM x A1 = _; unfold truM M.bind view M.of; dsimp only; rw [h2]; dsimp only; rw [h3])
        rcases hh with ⟨rfl, h4⟩ | ⟨rfl, e⟩
        · exact sw_or st (fun _ => hw _ _ (by unfold M.bind; rw [h4]; exact q)) (fun z => nomatch z)
        · cases e
          obtain ⟨d', k', e1, e2, rfl⟩ := tru_inv q
          rw [h2] at e1; cases e1; rw [h3] at e2; cases e2
          exact sw_or st (fun z => nomatch z) (fun _ => rfl)
      · cases e
    · rcases inv h0 with ⟨x, d, k, A1, h1, h2, h3, hh⟩ | ⟨C', A1, h1, e⟩
      · have st : STt X c a A (.ok k A1) := ha.2 _ _ (by unfold M.bind; rw [h1]; show truM x A1 = _; unfold truM M.bind view M.of; dsimp only; rw [h2]; dsimp only; rw [h3])
        rcases hh with ⟨rfl, h4⟩ | ⟨rfl, e⟩
        · exact sw_or st (fun _ => hw _ _ (by unfold M.bind; rw [h4])) (fun z => nomatch z)
        · cases e
      · cases e
        exact sw_orX (ha.2 _ _ (by unfold M.bind; rw [h1]))
  refine ⟨⟨fun A o q => ?_, fun A o q => sw_st (wpart A o q)⟩, wpart⟩
  rcases inv q with ⟨x, d, k, A1, h1, h2, h3, hh⟩ | ⟨C, A1, h1, rfl⟩
  · rcases hh with ⟨rfl, h4⟩ | ⟨rfl, rfl⟩
    · exact se_or (ha.1 _ _ h1) h2 h3 (fun _ => hb.1 _ _ h4) (fun z => nomatch z)
    · exact se_or (ha.1 _ _ h1) h2 h3 (fun z => nomatch z) (fun _ => rfl)
  · exact se_orX (ha.1 _ _ h1)
theorem nox_inv {α : Type} {m : M α} {o : Out α} (h : m.nox A = some o) : ∃ a A1, m A = some (.ok a A1) ∧ o = .ok a A1 := by
  unfold M.nox at h
  split at h
  · exact ⟨_, _, ‹_›, (Option.some.inj h).symm⟩
  · cases h
theorem nbind {α β : Type} {m : M α} {f : α → M β} {o : Out β} (h : M.bind m.nox f A = some o) : ∃ a A1, m A = some (.ok a A1) ∧ f a A1 = some o := by
  rcases bind_inv h with ⟨a, A1, h1, h2⟩ | ⟨C, A1, h1, h2⟩
  · obtain ⟨a', A', e1, e2⟩ := nox_inv h1
    cases e2; exact ⟨_, _, e1, h2⟩
  · obtain ⟨a', A', e1, e2⟩ := nox_inv h1
    cases e2
theorem chn_cases {o1 o2 : CmpOp} {t u v : Tm} {o : Out SV} (q : ev Γ (.chn o1 o2 t u v) A = some o) : ∃ x y d1 d2 A1 A2, ev Γ t A = some (.ok x A1) ∧ ev Γ u A1 = some (.ok y A2) ∧ viewOf A2.μ x = some d1 ∧ viewOf A2.μ y = some d2 ∧
      ((∃ z d2' d3 k A3, cmpD o1 d1 d2 = some true ∧ ev Γ v A2 = some (.ok z A3) ∧ viewOf A3.μ y = some d2' ∧ viewOf A3.μ z = some d3 ∧ cmpD o2 d2' d3 = some k ∧ o = .ok (.dat (.bool k)) A3) ∨ (cmpD o1 d1 d2 = some false ∧ o = .ok (.dat (.bool false)) A2)) := by
  have q : ((ev Γ t).nox.bind fun x => (ev Γ u).nox.bind fun y => (view x).bind fun d1 => (view y).bind fun d2 => (M.of (cmpD o1 d1 d2)).bind fun k => match k with
    | true => (ev Γ v).nox.bind fun z => (view y).bind fun d2 => (view z).bind fun d3 => (M.of (cmpD o2 d2 d3)).bind fun r => M.ret (.dat (.bool r))
    | false => M.ret (.dat (.bool false))) A = some o := q
  obtain ⟨x, A1, h1, q⟩ := nbind q
  obtain ⟨y, A2, h2, q⟩ := nbind q
  obtain ⟨d, h3, q⟩ := vbind q
  obtain ⟨d2, h4, q⟩ := vbind q
  obtain ⟨k, h5, q⟩ := obind q
  refine ⟨x, y, d, d2, A1, A2, h1, h2, h3, h4, ?_⟩
  cases k with
  | false => exact .inr ⟨h5, ret_inv q⟩
  | true =>
    obtain ⟨z, A3, h6, q⟩ := nbind q
    obtain ⟨d2', h6b, q⟩ := vbind q
    obtain ⟨d3, h7, q⟩ := vbind q
    obtain ⟨k, h8, q⟩ := obind q
    exact .inl ⟨z, d2', d3, k, A3, h5, h6, h6b, h7, h8, ret_inv q⟩
theorem good_chn {o1 o2 : CmpOp} {t u v : Tm} {d : Expr} {pos : Pos} (hu : X.A.units + 65 < cLine) (hm : lastMarks [o1, o2] [b, d] = false) (ha : Good X c Γ a t) (hb : Good X c Γ b u) (hd : Good X c Γ d v) : Good X c Γ (.Compare a [o1, o2] [b, d] pos) (.chn o1 o2 t u v) := ⟨fun A o q => by
  obtain ⟨x, y, d1, d2, A1, A2, h1, h2, h3, h4, ⟨z, d2', d3, k, A3, h5, h6, h6b, h7, h8, rfl⟩ | ⟨h5, rfl⟩⟩ := chn_cases q
  · exact se_chn hu (ha.1 _ _ h1) (hb.1 _ _ h2) h3 h4 h5 (hd.1 _ _ h6) h6b h7 h8 hm
  · exact se_chnF hu (ha.1 _ _ h1) (hb.1 _ _ h2) h3 h4 h5 hm, fun A o q => by
  rcases bind_inv q with ⟨w, A4, h0, q⟩ | ⟨C, A4, h0, rfl⟩
  · obtain ⟨dd, k, e1, e2, rfl⟩ := tru_inv q
    obtain ⟨x, y, d1, d2, A1, A2, h1, h2, h3, h4, ⟨z, d2', d3, k, A3, h5, h6, h6b, h7, h8, e⟩ | ⟨h5, e⟩⟩ := chn_cases h0
    · cases e; cases e1; cases e2
      exact st_chn hu (ha.1 _ _ h1) (hb.1 _ _ h2) h3 h4 h5 (hd.1 _ _ h6) h6b h7 h8 hm
    · cases e; cases e1; cases e2
      exact st_chnF hu (ha.1 _ _ h1) (hb.1 _ _ h2) h3 h4 h5 hm
  · obtain ⟨x, y, d1, d2, A1, A2, h1, h2, h3, h4, ⟨z, d2', d3, k, A3, h5, h6, h6b, h7, h8, e⟩ | ⟨h5, e⟩⟩ := chn_cases h0
    · cases e
    · cases e⟩
/-- a if t else b, as a test -/
theorem pt_ite' {t : Expr} {tt ta tb : TT} {pos : Pos} (ht : PT X t tt) (ha : PT X a ta) (hb : PT X b tb) : PT X (.IfExp t a b pos) (fun σ H Q => tt σ H fun k H1 => if k = true then ta σ H1 Q else tb σ H1 Q) := by
  refine ⟨fun pins s σ H Q I h => ?_⟩
  show wpAny _ _ (do if ← isTrue t X.env (eval t X.env) then isTrue a X.env (eval a X.env) else isTrue b X.env (eval b X.env)) _ _ _
  refine wpAny_bind (thn (ht.run pins s σ H _ I h) fun k s1 ⟨H1, I1, q⟩ => ?_)
  cases k with
  | true => exact ha.run pins s1 σ H1 Q I1 q
  | false => exact hb.run pins s1 σ H1 Q I1 q
theorem good_ite {e : Expr} {t u v : Tm} {pos : Pos} (ht : Good X c Γ e t) (ha : Good X c Γ a u) (hb : Good X c Γ b v) : Good X c Γ (.IfExp e a b pos) (.ite t u v) := by
  have inv : ∀ {A o}, ev Γ (.ite t u v) A = some o → (∃ k A1, ((ev Γ t).bind truM) A = some (.ok k A1) ∧ ((k = true ∧ ev Γ u A1 = some o) ∨ (k = false ∧ ev Γ v A1 = some o))) ∨ ∃ C A1, ((ev Γ t).bind truM) A = some (.ex C A1) ∧ o = .ex C A1 := fun {A o} q => by
    have q : (((ev Γ t).bind truM).bind fun k => match k with
      | true => ev Γ u
      | false => ev Γ v) A = some o := q
    rcases bind_inv q with ⟨k, A1, h1, q⟩ | ⟨C, A1, h1, rfl⟩
    · refine .inl ⟨k, A1, h1, ?_⟩
      cases k with
      | true => exact .inl ⟨rfl, q⟩
      | false => exact .inr ⟨rfl, q⟩
    · exact .inr ⟨C, A1, h1, rfl⟩
  refine ⟨fun A o q => ?_, fun A o q => ?_⟩
  · rcases inv q with ⟨k, A1, h1, ⟨rfl, h2⟩ | ⟨rfl, h2⟩⟩ | ⟨C, A1, h1, rfl⟩
    · exact se_ite (ht.2 _ _ h1) (fun _ => ha.1 _ _ h2) (fun z => nomatch z)
    · exact se_ite (ht.2 _ _ h1) (fun z => nomatch z) (fun _ => hb.1 _ _ h2)
    · exact se_iteX (ht.2 _ _ h1)
  · have fin : ∀ {k A1}, ((ev Γ t).bind truM) A = some (.ok k A1) → (k = true → STt X c a A1 o) → (k = false → STt X c b A1 o) → STt X c (.IfExp e a b pos) A o := fun {k A1} h1 f g G ps σ H S xk =>
      wT_of (pt_ite' pt_w pt_w pt_w) (goT (ht.2 _ _ h1) S fun H1 G1 qs e1 x1 S1 => by
        cases k with
        | true => exact iteT (wT_mono (f rfl G1 qs σ H1 S1 xk) fun _ _ q => q.up e1 x1)
        | false => exact iteF (wT_mono (g rfl G1 qs σ H1 S1 xk) fun _ _ q => q.up e1 x1))
    rcases bind_inv q with ⟨z, A3, h0, q⟩ | ⟨C, A3, h0, rfl⟩
    · rcases inv h0 with ⟨k, A1, h1, ⟨rfl, h2⟩ | ⟨rfl, h2⟩⟩ | ⟨C, A1, h1, e⟩
      · exact fin h1 (fun _ => ha.2 _ _ (by unfold M.bind; rw [h2]; exact q)) (fun z => nomatch z)
      · exact fin h1 (fun z => nomatch z) (fun _ => hb.2 _ _ (by unfold M.bind; rw [h2]; exact q))
      · cases e
    · rcases inv h0 with ⟨k, A1, h1, ⟨rfl, h2⟩ | ⟨rfl, h2⟩⟩ | ⟨C', A1, h1, e⟩
      · exact fin h1 (fun _ => ha.2 _ _ (by unfold M.bind; rw [h2])) (fun z => nomatch z)
      · exact fin h1 (fun z => nomatch z) (fun _ => hb.2 _ _ (by unfold M.bind; rw [h2]))
      · cases e
        exact fun G ps σ H S x => wT_of (pt_ite' pt_w (pt_w (X := X)) (pt_w (X := X))) (goXT (ht.2 _ _ h1) S x)
/-! ### lists of terms -/
def Goods (X : Cx) (c : Ct) (Γ : Gm) (es : List Expr) (ts : Tms) : Prop := ∀ A o, evs Γ ts A = some o → SA X c es A o
theorem goods_ok {f : Expr → Option Tm} (hf : ∀ e t, f e = some t → Good X c Γ e t) : ∀ {es : List Expr} {ts : Tms}, compL f es = some ts → Goods X c Γ es ts ∧ ∀ e ∈ es, notStar e = true
  | [], ts, h => by
    cases h
    exact ⟨fun A o q => by cases (ret_inv q); exact sa_nil, fun e he => (by cases he)⟩
  | e :: es, ts, h => by
    unfold compL at h
    split at h
    · rename_i hs
      cases h1 : f e with
      | none => rw [h1] at h; cases h
      | some t =>
        cases h2 : compL f es with
        | none => rw [h1, h2] at h; cases h
        | some us =>
          rw [h1, h2] at h
          cases h
          obtain ⟨g, hn⟩ := goods_ok hf h2
          refine ⟨fun A o q => ?_, fun x hx => by
            rcases List.mem_cons.mp hx with rfl | hx
            · exact hs
            · exact hn x hx⟩
          have q : ((ev Γ t).bind fun x => (evs Γ us).bind fun xs => M.ret (x :: xs)) A = some o := q
          rcases bind_inv q with ⟨x, A1, h3, q⟩ | ⟨C, A1, h3, rfl⟩
          · rcases bind_inv q with ⟨xs, A2, h4, q⟩ | ⟨C, A2, h4, rfl⟩
            · cases (ret_inv q)
              exact sa_cons (oa := .ok xs A2) ((hf e t h1).1 _ _ h3) (g _ _ h4) (star_each hs _)
            · exact sa_cons (oa := .ex C A2) ((hf e t h1).1 _ _ h3) (g _ _ h4) (star_each hs _)
          · exact sa_consX ((hf e t h1).1 _ _ h3) (star_each hs _)
    · cases h
/-- where data is asked for -/
theorem dbind {β : Type} {r : Nat} {ss : List SV} {f : List PyData → M β} {o : Out β} (h : M.bind (toDs r ss) f A = some o) : ∃ ds A1, toDs r ss A = some (.ok ds A1) ∧ f ds A1 = some o := by
  have nx : ∀ {ss : List SV} {A : AS} {C : Str} {A1 : AS}, toDs r ss A ≠ some (.ex C A1) := fun {ss} => by
    induction ss with
    | nil => intro A C A1 z; cases z
    | cons s ss ih =>
      intro A C A1 z
      have one : ∀ {A A2 : AS} {C : Str}, toD r s A ≠ some (.ex C A2) := fun {A A2 C} z => by
        unfold toD at z
        cases s with
        | any => cases z
        | exc C => cases z
        | dat d => cases z
        | own k =>
          dsimp only at z
          split at z
          · split at z <;> cases z
          · cases z
      unfold toDs at z
      rcases bind_inv z with ⟨d, A2, h1, z⟩ | ⟨C', A2, h1, _⟩
      · rcases bind_inv z with ⟨ds, A3, h2, z⟩ | ⟨C', A3, h2, _⟩
        · cases z
        · exact ih h2
      · exact one h1
  rcases bind_inv h with ⟨ds, A1, h1, h2⟩ | ⟨C, A1, h1, h2⟩
  · exact ⟨ds, A1, h1, h2⟩
  · exact absurd h1 nx
theorem vsbind {β : Type} {ss : List SV} {f : List PyData → M β} {o : Out β} (h : M.bind (views ss) f A = some o) : ∃ ds, views ss A = some (.ok ds A) ∧ f ds A = some o := by
  have nx : ∀ {ss : List SV} {A : AS} {o : Out (List PyData)}, views ss A = some o → ∃ ds, o = .ok ds A := fun {ss} => by
    induction ss with
    | nil => intro A o z; exact ⟨[], ret_inv z⟩
    | cons s ss ih =>
      intro A o z
      unfold views at z
      obtain ⟨d, h1, z⟩ := vbind z
      rcases bind_inv z with ⟨ds, A2, h2, z⟩ | ⟨C', A2, h2, _⟩
      · obtain ⟨ds', e⟩ := ih h2
        cases e
        exact ⟨_, ret_inv z⟩
      · obtain ⟨ds', e⟩ := ih h2
        cases e
  rcases bind_inv h with ⟨ds, A1, h1, h2⟩ | ⟨C, A1, h1, h2⟩
  · obtain ⟨ds', e⟩ := nx h1
    cases e
    exact ⟨ds, h1, h2⟩
  · obtain ⟨ds', e⟩ := nx h1
    cases e
theorem good_tup {ts : Tms} {k : Nat} {pos : Pos} (hr : c.own.length = Γ.r) (g : Goods X c Γ es ts) : Good X c Γ (.Tuple es k pos) (.tup ts) := good_val (fun A o q => by
  have q : ((evs Γ ts).bind fun ss => (toDs Γ.r ss).bind fun ds => fun A => if ds.length ≤ 1000000 then some (.ok (.dat (.tuple ds)) A) else none) A = some o := q
  rcases bind_inv q with ⟨ss, A1, h1, q⟩ | ⟨C, A1, h1, rfl⟩
  · obtain ⟨ds, A2, h2, q⟩ := dbind q
    rw [← hr] at h2
    split at q
    · cases q
      exact se_tup (g _ _ h1) h2 ‹_›
    · cases q
  · exact se_tupX (g _ _ h1)) (fun _ => rfl)
theorem good_lst {ts : Tms} {fr : Bool} {pos : Pos} (hr : c.own.length = Γ.r) (g : Goods X c Γ es ts) : Good X c Γ (.List es pos) (.lst fr ts) := good_val (fun A o q => by
  have q : ((evs Γ ts).bind fun ss => (toDs Γ.r ss).bind fun ds => alloc fr ds) A = some o := q
  rcases bind_inv q with ⟨ss, A1, h1, q⟩ | ⟨C, A1, h1, rfl⟩
  · obtain ⟨ds, A2, h2, q⟩ := dbind q
    rw [← hr] at h2
    exact se_lst (g _ _ h1) h2 q
  · exact se_lstX (g _ _ h1)) (fun _ => rfl)
theorem good_idx {t u : Tm} {pos : Pos} (hp : notSlice b = true) (ha : Good X c Γ a t) (hb : Good X c Γ b u) : Good X c Γ (.Subscript a b pos) (.idx t u) := good_val (fun A o q => by
  have hp' : PlainIx b := plainIx b (by cases b <;> first | trivial | cases hp)
  have q : ((ev Γ t).bind fun x => (ev Γ u).bind fun y => (view x).bind fun d => (view y).bind fun e => (M.of (ixD d e)).bind fun r => M.ret (.dat r)) A = some o := q
  rcases bind_inv q with ⟨x, A1, h1, q⟩ | ⟨C, A1, h1, rfl⟩
  · rcases bind_inv q with ⟨y, A2, h2, q⟩ | ⟨C, A2, h2, rfl⟩
    · obtain ⟨d, h3, q⟩ := vbind q
      obtain ⟨d2, h4, q⟩ := vbind q
      obtain ⟨r, h5, q⟩ := obind q
      cases (ret_inv q)
      exact se_idx (ha.1 _ _ h1) (hb.1 _ _ h2) h3 h4 h5 hp'
    · exact se_idxY (ha.1 _ _ h1) (hb.1 _ _ h2) hp'
  · exact se_idxX (ha.1 _ _ h1) hp') (fun _ => rfl)
theorem wo_ok {f : Expr → Option Tm} (hf : ∀ e t, f e = some t → Good X c Γ e t) {lo : Option Expr} {u : Tms} {l : Option Int} (h : compO f lo = some u) (q : evO Γ u A = some (.ok l A1)) : ∀ G ps σ H, St X.K c A G ps σ H → Eng.wO X lo σ H fun o H' => o = l ∧ ∃ G' qs, Ex G G' ∧ Ext ps qs ∧ St X.K c A1 G' qs σ H' := by
  cases lo with
  | none =>
    cases h
    cases (ret_inv q)
    exact wo_none
  | some e =>
    unfold compO at h
    dsimp only at h
    cases h1 : f e with
    | none => rw [h1] at h; cases h
    | some t =>
      rw [h1] at h
      cases h
      have q : ((ev Γ t).nox.bind fun y => match y with
        | .dat (.int i) => M.ret (some i)
        | _ => fun _ => none) A = some (.ok l A1) := q
      obtain ⟨y, A2, h2, q⟩ := nbind q
      split at q
      · cases (ret_inv q)
        exact wo_some ((hf e t h1).1 _ _ h2) rfl
      · cases q
theorem good_slc {f : Expr → Option Tm} (hf : ∀ e t, f e = some t → Good X c Γ e t) {t : Tm} {u v : Tms} {lo hi : Option Expr} {pos p2 : Pos} (ha : Good X c Γ a t) (hl : compO f lo = some u) (hh : compO f hi = some v) : Good X c Γ (.Subscript a (.Slice lo hi none p2) pos) (.slc t u v) := good_val (fun A o q => by
  have q : ((ev Γ t).nox.bind fun x => (evO Γ u).nox.bind fun l => (evO Γ v).nox.bind fun h => (view x).bind fun d => (M.of (slD d l h)).bind fun r => M.ret (.dat r)) A = some o := q
  obtain ⟨x, A1, h1, q⟩ := nbind q
  obtain ⟨l, A2, h2, q⟩ := nbind q
  obtain ⟨h, A3, h3, q⟩ := nbind q
  obtain ⟨d, h6, q⟩ := vbind q
  obtain ⟨r, h9, q⟩ := obind q
  cases (ret_inv q)
  unfold slD at h9
  split at h9
  · cases h9
    exact se_slc (ha.1 _ _ h1) (wo_ok hf hl h2) (wo_ok hf hh h3) h6
  · cases h9) (fun _ => rfl)
theorem ty_facts {T : String} (h : T ∈ ["int", "bool", "str", "list", "tuple"]) : bootBuiltins (Str.ofString T) = some (.type T) ∧ Str.ofString T ≠ "__name__" ∧ (Str.ofString T == ("__debug__" : Str)) = false := by
  simp only [List.mem_cons, List.not_mem_nil, or_false] at h
  rcases h with rfl | rfl | rfl | rfl | rfl <;> exact ⟨by decide +kernel, by decide, by decide⟩
theorem good_isi {t : Tm} {T : String} {cp p pos : Pos} (Hyp : Hy X c E Γ) (hb : E.blt "isinstance" = true) (hb2 : E.blt (Str.ofString T) = true) (hs : notStar a = true) (hT : T ∈ ["int", "bool", "str", "list", "tuple"]) (ha : Good X c Γ a t) : Good X c Γ (.Call (.Name "isinstance" p) [a, .Name (Str.ofString T) cp] [] pos) (.isi t T) := good_val (fun A o q => by
  obtain ⟨f1, f2, f3⟩ := ty_facts hT
  have q : ((ev Γ t).nox.bind fun x => (view x).bind fun d => (M.of (tyD d)).bind fun S => (M.of (kitB S T)).bind fun k => M.ret (.dat (.bool k))) A = some o := q
  obtain ⟨x, A1, h1, q⟩ := nbind q
  obtain ⟨d, h2, q⟩ := vbind q
  obtain ⟨S, h3, q⟩ := obind q
  obtain ⟨k, h4, q⟩ := obind q
  cases (ret_inv q)
  exact se_isi (Hyp.blt hb).1 (Hyp.blt hb2).1 (ha.1 _ _ h1) h2 h3 h4 f1 (Hyp.blt hb2).2 f2 f3 (Hyp.blt hb).2 (star_each hs _) (star_each rfl _) (star_none fun e he => by rw [List.mem_singleton.mp he]; rfl)) (fun _ => rfl)
theorem good_sortr {t : Tm} {fr : Bool} {k : Nat} {kp kpos p pos : Pos} (Hyp : Hy X c E Γ) (hcalm : E.calm = true) (hb : E.blt "sorted" = true) (hs : notStar a = true) (ha : Good X c Γ a t) : Good X c Γ (.Call (.Name "sorted" p) [a] [⟨some "reverse", .Constant (.bool true) k kp, kpos⟩] pos) (.sortr fr t) := good_val (fun A o q => by
  have q : ((ev Γ t).nox.bind fun x => (view x).bind fun d => match d with
    | .list l => (M.of (intsD l)).bind fun is => alloc fr ((sortI is).reverse.map .int)
    | _ => fun _ => none) A = some o := q
  obtain ⟨x, A1, h1, q⟩ := nbind q
  obtain ⟨d, h2, q⟩ := vbind q
  split at q
  · obtain ⟨is, h3, q⟩ := obind q
    rw [ints_of h3] at h2
    exact se_sortr (Hyp.blt hb).1 (ha.1 _ _ h1) h2 (Hyp.blt hb).2 (Hyp.calm hcalm) q (star_each hs _)
  · cases q) (fun _ => rfl)
theorem good_blen {t : Tm} {ap pos : Pos} (hn : notCall a = true) (hl : (ap.endLine == pos.line) = true) (ha : Good X c Γ a t) : Good X c Γ (.Call (.Attribute a "bit_length" ap) [] [] pos) (.blen t) := good_val (fun A o q => by
  have q : ((ev Γ t).nox.bind fun x => (view x).bind fun d => match d with
    | .int i => M.ret (.dat (.int (Builtin.Int.intBits i : Nat)))
    | _ => fun _ => none) A = some o := q
  obtain ⟨x, A1, h1, q⟩ := nbind q
  obtain ⟨d, h2, q⟩ := vbind q
  split at q
  · cases (ret_inv q)
    intro G ps σ H S _
    exact wE_of (pe_bits pe_w (by cases a <;> first | rfl | cases hn) hl) (go1 (ha.1 _ _ h1) S fun v H1 G1 qs e1 x1 S1 r1 => ⟨_, dp_int (r1.view S1.hs h2), (Post.dat S1 (.int _)).up e1 x1⟩)
  · cases q) (fun _ => rfl)
theorem good_bits {t : Tm} {k1 k2 : Nat} {p1 p2 p3 p4 p5 ap pos : Pos} (hl : (ap.endLine == pos.line) = true) (ha : Good X c Γ a t) : Good X c Γ (.Call (.Attribute (.JoinedStr [.FormattedValue a (-1) (some (.JoinedStr [.Constant (.str "b") k1 p1] p2)) p3] p4) "count" ap) [.Constant (.str "1") k2 p5] [] pos) (.bits t) := good_val (fun A o q => by
  have q : ((ev Γ t).nox.bind fun x => (view x).bind fun d => match d with
    | .int i => fun A => if 0 ≤ i ∧ i < 2 ^ 100000 then some (.ok (.dat (.int (Eng.pop i.toNat : Nat))) A) else none
    | _ => fun _ => none) A = some o := q
  obtain ⟨x, A1, h1, q⟩ := nbind q
  obtain ⟨d, h2, q⟩ := vbind q
  split at q
  · rename_i i
    split at q
    · rename_i hi
      cases q
      obtain ⟨n, rfl⟩ : ∃ n : Nat, i = (n : Int) := ⟨i.toNat, by omega⟩
      have hn : n < 2 ^ 100000 := by
        have := hi.2
        exact_mod_cast this
      intro G ps σ H S _
      refine wE_of (pe_bm PySem.F.plainAttrs_str PySem.F.slot_str_count PySem.F.type_str_count mt_count (pe_joined1 (Eng.pe_fmtB pe_w (pe_joined1 pe_str))) (pa_cons pe_str pa_nil rfl) rfl rfl hl rfl rfl) (go1 (ha.1 _ _ h1) S fun v H1 G1 qs e1 x1 S1 r1 => ?_)
      refine ⟨n, dp_int (r1.view S1.hs h2), Nat.le_trans (Eng.binS_len hn (by decide)) (Evl.sz_of (Nat.le_refl _)), rfl, Eng.binS n, _, rfl, rfl, ?_⟩
      rw [Eng.count_bin, Int.toNat_natCast]
      exact (Post.dat S1 (.int _)).up e1 x1
    · cases q
  · cases q) (fun _ => rfl)
theorem good_call {x : Str} {m : Nat} {fr : Bool} {ts : Tms} {p pos : Pos} (Hyp : Hy X c E Γ) (hm : E.fns.lookup x = some m) (hg : E.gl x = true) (hdb : (x == ("__debug__" : Str)) = false) (g : Goods X c Γ (e :: es) ts) (hs : ∀ a ∈ e :: es, notStar a = true) : Good X c Γ (.Call (.Name x p) (e :: es) [] pos) (.call x m fr ts) := good_val (fun A o q => by
  obtain ⟨lev, C, hr⟩ := Hyp.fns x m hm
  have s1 : starEach (e :: es) X.env = (false, eval e X.env) :: starEach es X.env := star_each (hs e List.mem_cons_self) _
  have s2 : (backTo pos (starEach es X.env)).any (·.1) = false := star_none fun a ha => hs a (List.mem_cons_of_mem _ ha)
  have q : ((evs Γ ts).bind fun ss => callF Γ x m fr ss) A = some o := q
  rcases bind_inv q with ⟨ss, A1, h1, q⟩ | ⟨Cn, A1, h1, rfl⟩
  rotate_left
  · exact call_X C hr (g _ _ h1) (Hyp.gl hg) hdb s1 s2
  unfold callF at q
  split at q
  · obtain ⟨ds, A2, h2, q⟩ := dbind q
    rw [← Hyp.r] at h2
    exact call_plain C hr (g _ _ h1) h2 q (Hyp.gl hg) hdb s1 s2
  · obtain ⟨ds, h2, q⟩ := vsbind q
    exact call_lent C hr (g _ _ h1) h2 q (Hyp.gl hg) hdb s1 s2
  · split at q
    · obtain ⟨ds, A2, h2, q⟩ := dbind q
      rw [← Hyp.r] at h2
      split at q
      · exact call_ref C hr (g _ _ h1) h2 ‹_› q (Hyp.gl hg) hdb s1 s2
      · cases q
    · cases q
  · cases q) (fun _ => rfl)
theorem cat_inv {fr : Bool} {x y : SV} {o : Out SV} (h : catF fr x y A = some o) : ∃ k j ds es, x = .own k ∧ y = .own j ∧ A.μ[k]? = some (.lst ds) ∧ A.μ[j]? = some (.lst es) ∧ alloc fr (ds ++ es) A = some o := by
  unfold catF at h
  split at h
  · split at h
    · exact ⟨_, _, _, _, rfl, rfl, ‹_›, ‹_›, h⟩
    · cases h
  · cases h
theorem rep_inv {fr : Bool} {x : SV} {d : PyData} {o : Out SV} (h : repF fr x d A = some o) : ∃ k n ds, x = .own k ∧ d = .int n ∧ A.μ[k]? = some (.lst ds) ∧ (-1000000 ≤ n ∧ n ≤ 1000000) ∧ alloc fr (List.replicate n.toNat ds).flatten A = some o := by
  unfold repF at h
  split at h
  · split at h
    · split at h
      · exact ⟨_, _, _, rfl, rfl, ‹_›, ‹_›, h⟩
      · cases h
    · cases h
  · cases h
theorem own_lst {G : Hp} {ps : List Addr} {H : Hp} {k : Nat} {ds : List PyData} {v : V} (S : HS X.K c A.μ G ps H) (r : VOk X.K G ps v (.own k)) (hm : A.μ[k]? = some (.lst ds)) : ∃ p xs, v = .ref p ∧ ps[k]? = some p ∧ H p = some (.lst xs) ∧ DpAll X.K G xs ds := by
  obtain ⟨p, hk, rfl⟩ := r
  obtain ⟨g, xs, hx, hd⟩ := S.mu k p _ hk hm
  exact ⟨p, xs, rfl, hk, hx, hd⟩
theorem good_cat {t u : Tm} {fr : Bool} {pos : Pos} (ha : Good X c Γ a t) (hb : Good X c Γ b u) : Good X c Γ (.BinOp a .Add b pos) (.cat fr t u) := good_val (fun A o q => by
  have q : ((ev Γ t).nox.bind fun x => (ev Γ u).nox.bind fun y => catF fr x y) A = some o := q
  obtain ⟨x, A1, h1, q⟩ := nbind q
  obtain ⟨y, A2, h2, q⟩ := nbind q
  obtain ⟨k, j, ds, es, rfl, rfl, m1, m2, q⟩ := cat_inv q
  intro G ps σ H S _
  refine wE_of (pe_op op_cat pe_w pe_w) (go1 (ha.1 _ _ h1) S fun v H1 G1 qs e1 x1 S1 r1 => go1 (hb.1 _ _ h2) S1 fun w H2 G2 rs e2 x2 S2 r2 => ?_)
  obtain ⟨p1, xs, rfl, _, z1, d1⟩ := own_lst S2.hs (r1.up e2 x2) m1
  obtain ⟨p2, ys, rfl, _, z2, d2⟩ := own_lst S2.hs r2 m2
  have dd := dall_app d1 d2
  have hz := alloc_len q
  refine ⟨p1, p2, xs, ys, rfl, rfl, z1, z2, ?_, fun p hp => (alloc_ok S2 dd q hp).2.up (e1.trans e2) (x1.trans x2)⟩
  rw [← List.length_append, dall_len dd]
  exact sz_of hz) (fun _ => rfl)
theorem len_rep {α : Type} (xs : List α) : ∀ n : Nat, xs.length * n = (List.replicate n xs).flatten.length
  | 0 => rfl
  | n + 1 => by rw [List.replicate_succ, List.flatten_cons, List.length_append, ← len_rep xs n, Nat.mul_succ, Nat.add_comm]
theorem good_rep {t u : Tm} {fr : Bool} {pos : Pos} (ha : Good X c Γ a t) (hb : Good X c Γ b u) : Good X c Γ (.BinOp a .Mult b pos) (.rep fr t u) := good_val (fun A o q => by
  have q : ((ev Γ t).nox.bind fun x => (ev Γ u).nox.bind fun y => (view y).bind fun d => repF fr x d) A = some o := q
  obtain ⟨x, A1, h1, q⟩ := nbind q
  obtain ⟨y, A2, h2, q⟩ := nbind q
  obtain ⟨d, h3, q⟩ := vbind q
  obtain ⟨k, n, ds, rfl, rfl, m1, hn, q⟩ := rep_inv q
  intro G ps σ H S _
  refine wE_of (pe_op op_rep pe_w pe_w) (go1 (ha.1 _ _ h1) S fun v H1 G1 qs e1 x1 S1 r1 => go1 (hb.1 _ _ h2) S1 fun w H2 G2 rs e2 x2 S2 r2 => ?_)
  obtain ⟨p1, xs, rfl, _, z1, d1⟩ := own_lst S2.hs (r1.up e2 x2) m1
  have ew := dp_int (r2.view S2.hs h3)
  have dd := Eng.dall_rep d1 n.toNat
  have hz := alloc_len q
  refine ⟨p1, n, xs, rfl, ew, z1, by omega, by omega, ?_, fun p hp => (alloc_ok S2 dd q hp).2.up (e1.trans e2) (x1.trans x2)⟩
  have e5 : xs.length * n.toNat = (List.replicate n.toNat xs).flatten.length := len_rep xs n.toNat
  rw [e5, dall_len dd]
  exact sz_of hz) (fun _ => rfl)
theorem good_isx {x C : Str} {i : Nat} {p1 p2 p pos : Pos} (Hyp : Hy X c E Γ) (hb : E.blt "isinstance" = true) (hx : E.xs.contains C = true) (hgC : E.gl C = true) (hdC : (C == ("__debug__" : Str)) = false) (hi : idxN E.N x = some i) (hv : visB E.sc x = true) (hk : okN x = true) : Good X c Γ (.Call (.Name "isinstance" p) [.Name x p1, .Name C p2] [] pos) (.isx i C) := good_val (fun A o q => by
  have q : (match A.ρ[i]? with
    | some (.exc D) => match Γ.sub D C with
      | some b => some (.ok (.dat (.bool b)) A)
      | none => none
    | _ => none) = some o := q
  split at q
  · rename_i D hρ
    split at q
    · rename_i b hb2
      cases q
      intro G ps σ H S _
      obtain ⟨a, hs, hea⟩ := S.sl i _ hρ
      obtain ⟨cC, hm, hc⟩ := Hyp.isx C D a b hea hb2
      obtain ⟨k1, k2⟩ := okN_ok hk
      exact wE_of (pe_callB hc (Hyp.blt hb).2 (Hyp.blt hb).1 (by decide +kernel) (pa_cons (pe_var (by rw [Hyp.hN]; exact idxN_ok hi) (by rw [Hyp.sc]; exact vis_ok hv) k1 k2) (pa_cons (pe_glob (v := .ref cC) (Hyp.gl hgC) hm rfl hdC) pa_nil (star_each rfl _)) (star_each rfl _)) (by decide) (by decide) (star_each rfl _) (star_none fun e he => by rw [List.mem_singleton.mp he]; rfl)) ⟨_, hs, rfl, Post.dat S (.bl _)⟩
    · cases q
  · cases q) (fun _ => rfl)
theorem good_bi {b : Bf} {fr : Bool} {ts : Tms} {p pos : Pos} (Hyp : Hy X c E Γ) (hcalm : E.calm = true) (hb : E.blt (bfName b) = true) (g : Goods X c Γ (e :: es) ts) (hs : ∀ a ∈ e :: es, notStar a = true) : Good X c Γ (.Call (.Name (bfName b) p) (e :: es) [] pos) (.bi b fr ts) := good_val (fun A o q => by
  obtain ⟨hm, hg⟩ := Hyp.blt hb
  have s1 : starEach (e :: es) X.env = (false, eval e X.env) :: starEach es X.env := star_each (hs e List.mem_cons_self) _
  have s2 : (backTo pos (starEach es X.env)).any (·.1) = false := star_none fun a ha => hs a (List.mem_cons_of_mem _ ha)
  have q : ((evs Γ ts).bind fun ss => (views ss).bind fun ds => match biF b ds with
    | some d => if fr = true then fun _ => none else M.ret (.dat d)
    | none => match biL b ds with
      | some l => alloc fr l
      | none => match biT b ds with
        | some l => M.ret (.dat (.tuple l))
        | none => fun _ => none) A = some o := q
  rcases bind_inv q with ⟨ss, A1, h1, q⟩ | ⟨C, A1, h1, rfl⟩
  · obtain ⟨ds, h2, q⟩ := vsbind q
    cases h3 : biF b ds with
    | some d =>
      rw [h3] at q
      dsimp only at q
      by_cases hf : fr = true
      · rw [if_pos hf] at q; cases q
      · rw [if_neg hf] at q
        cases (ret_inv q)
        exact se_biF (Hyp.calm hcalm) (g _ _ h1) h2 h3 hg hm s1 s2
    | none =>
      rw [h3] at q
      dsimp only at q
      cases h4 : biL b ds with
      | some l =>
        rw [h4] at q
        exact se_biL (g _ _ h1) h2 h4 q hg hm s1 s2
      | none =>
        rw [h4] at q
        dsimp only at q
        cases h5 : biT b ds with
        | some l =>
          rw [h5] at q
          cases (ret_inv q)
          exact se_biT (g _ _ h1) h2 h5 hg hm s1 s2
        | none => rw [h5] at q; cases q
  · exact se_biX (g _ _ h1) hg hm s1 s2) (fun _ => rfl)
end
end Py

set_option Elab.async false
set_option linter.all false
set_option maxRecDepth 100000
set_option maxHeartbeats 2000000
/-! PyK: comprehensions compiled; all expressions. -/
namespace Py
open PySem PySem.Spec PyProof.Rows L2
open Evl (Ex)
open Eng (dp_up dp_upAll dall_len dall_get dall_getV dall_app dall_set dp_int dp_str dp_bl dp_non dp_list dp_tup wE wT wA wS wB pe_w pt_w pa_w ps_w pss_w wE_of wT_of wA_of wS_of wB_of wE_mono wT_mono wA_mono)
section
variable {X : Cx} {c : Ct} {E : CE} {Γ : Gm} {A A1 : AS} {e a b tg it : Expr} {es : List Expr}
theorem tdbind {β : Type} {r : Nat} {x : SV} {f : PyData → M β} {o : Out β} (h : M.bind (toD r x) f A = some o) : ∃ d A1, toD r x A = some (.ok d A1) ∧ f d A1 = some o := by
  rcases bind_inv h with ⟨a, A1, h1, h2⟩ | ⟨C, A1, h1, h2⟩
  · exact ⟨a, A1, h1, h2⟩
  · unfold toD at h1
    cases x with
    | any => cases h1
    | exc C => cases h1
    | dat d => cases h1
    | own k =>
      dsimp only at h1
      split at h1
      · split at h1 <;> cases h1
      · cases h1
theorem seq_ok (hr : c.own.length = Γ.r) {t : Tm} (ha : Good X c Γ it t) : ∀ A o, evI Γ (.seq t) A = some o → SI X c tg it A o := fun A o q => by
  have q : ((ev Γ t).bind fun x => (toD Γ.r x).bind fun d => M.of (seqD d)) A = some o := q
  rcases bind_inv q with ⟨x, A1, h1, q⟩ | ⟨C, A1, h1, rfl⟩
  · obtain ⟨d, A2, h2, q⟩ := tdbind q
    obtain ⟨ds, h3, rfl⟩ := of_inv q
    rw [← hr] at h2
    exact si_seq (ha.1 _ _ h1) h2 h3
  · exact si_seqX (ha.1 _ _ h1)
theorem compIt_ok {f : Expr → Option Tm} (hf : ∀ e t, f e = some t → Good X c Γ e t) (Hyp : Hy X c E Γ) {i : Itr} (h : compIt f E tg it = some i) : (∀ A o, evI Γ i A = some o → SI X c tg it A o) ∧ ∀ (env : Env) x, foldedSetIterable it env x = pure x := by
  have sq : ∀ {it : Expr}, (f it).map .seq = some i → ∀ A o, evI Γ i A = some o → SI X c tg it A o := fun {it} h => by
    cases h1 : f it with
    | none => rw [h1] at h; cases h
    | some t => rw [h1] at h; cases h; exact seq_ok Hyp.r (hf _ _ h1)
  unfold compIt at h
  split at h
  · rename_i x p args pos
    refine ⟨?_, fun _ _ => rfl⟩
    split at h
    · rename_i hx
      subst hx
      split at h
      · rename_i hb
        obtain ⟨hm, hg⟩ := Hyp.blt hb
        split at h
        · rename_i a
          split at h
          · rename_i hs
            cases h1 : f a with
            | none => rw [h1] at h; cases h
            | some t =>
              rw [h1] at h; cases h
              intro A o q
              have q : ((ev Γ t).nox.bind fun x => (view x).bind fun d => match d with
                | .int n => fun A => if n ≤ 1000000 ∧ -1000000 ≤ n then some (.ok (rngD 0 n.toNat) A) else none
                | _ => fun _ => none) A = some o := q
              obtain ⟨x, A1, h2, q⟩ := nbind q
              obtain ⟨d, h3, q⟩ := vbind q
              split at q
              · split at q
                · cases q
                  exact si_rng hm ((hf _ _ h1).1 _ _ h2) h3 ‹_› hg (star_each hs _) (star_one hs _)
                · cases q
              · cases q
          · cases h
        · rename_i a b
          split at h
          · rename_i hs
            rw [Bool.and_eq_true] at hs
            cases h1 : f a with
            | none => rw [h1] at h; cases h
            | some t =>
              cases h1b : f b with
              | none => rw [h1, h1b] at h; cases h
              | some u =>
                rw [h1, h1b] at h; cases h
                intro A o q
                have q : ((ev Γ t).nox.bind fun x => (ev Γ u).nox.bind fun y => (view x).bind fun d => (view y).bind fun e => match d, e with
                  | .int m, .int n => fun A => if (n ≤ 1000000 ∧ -1000000 ≤ n) ∧ (m ≤ 1000000 ∧ -1000000 ≤ m) then some (.ok (rngD m (n - m).toNat) A) else none
                  | _, _ => fun _ => none) A = some o := q
                obtain ⟨x, A1, h2, q⟩ := nbind q
                obtain ⟨y, A2, h2b, q⟩ := nbind q
                obtain ⟨d, h3, q⟩ := vbind q
                obtain ⟨d2, h4, q⟩ := vbind q
                split at q
                · split at q
                  · cases q
                    exact si_rng2 hm ((hf _ _ h1).1 _ _ h2) ((hf _ _ h1b).1 _ _ h2b) h3 h4 ‹_› hg (star_each hs.1 _) (star_each hs.2 _) (by rw [star_each hs.1, star_each hs.2]; rfl) (star_one hs.2 _)
                  · cases q
                · cases q
          · cases h
        · cases h
      · cases h
    · split at h
      · rename_i hx
        subst hx
        split at h
        · rename_i hb
          rw [Bool.and_eq_true] at hb
          obtain ⟨hm, hg⟩ := Hyp.blt hb.1
          split at h
          · rename_i a
            split at h
            · rename_i hs
              cases h1 : f a with
              | none => rw [h1] at h; cases h
              | some t =>
                rw [h1] at h; cases h
                intro A o q
                have q : ((ev Γ t).nox.bind fun x => (toD Γ.r x).bind fun d => match d with
                  | .list ds => M.ret (enumD ds)
                  | _ => fun _ => none) A = some o := q
                obtain ⟨x, A1, h2, q⟩ := nbind q
                obtain ⟨d, A2, h3, q⟩ := tdbind q
                split at q
                · cases (ret_inv q)
                  rw [← Hyp.r] at h3
                  cases tg with
                  | Tuple elts kk tpos => exact si_enu hm ((hf _ _ h1).1 _ _ h2) h3 hg (star_each hs _) (star_one hs _)
                  | _ => cases hb.2
                · cases q
            · cases h
          · cases h
        · cases h
      · split at h
        · rename_i hx
          subst hx
          split at h
          · rename_i hb
            rw [Bool.and_eq_true] at hb
            obtain ⟨hm, hg⟩ := Hyp.blt hb.1
            split at h
            · rename_i a b
              split at h
              · rename_i hs
                rw [Bool.and_eq_true] at hs
                cases h1 : f a with
                | none => rw [h1] at h; cases h
                | some t =>
                  cases h1b : f b with
                  | none => rw [h1, h1b] at h; cases h
                  | some u =>
                    rw [h1, h1b] at h; cases h
                    intro A o q
                    have q : ((ev Γ t).nox.bind fun x => (ev Γ u).nox.bind fun y => (toD Γ.r x).bind fun d => (toD Γ.r y).bind fun e => match d, e with
                      | .list ds, .list es => M.ret (zipD ds es)
                      | _, _ => fun _ => none) A = some o := q
                    obtain ⟨x, A1, h2, q⟩ := nbind q
                    obtain ⟨y, A2, h2b, q⟩ := nbind q
                    obtain ⟨d, A3, h3, q⟩ := tdbind q
                    obtain ⟨d2, A4, h4, q⟩ := tdbind q
                    split at q
                    · cases (ret_inv q)
                      rw [← Hyp.r] at h3 h4
                      cases tg with
                      | Tuple elts kk tpos => exact si_zip hm ((hf _ _ h1).1 _ _ h2) ((hf _ _ h1b).1 _ _ h2b) h3 h4 hg (star_each hs.1 _) (star_each hs.2 _) (star_none fun e he => by rw [List.mem_singleton.mp he]; exact hs.2)
                      | _ => cases hb.2
                    · cases q
              · cases h
            · cases h
          · cases h
        · exact sq h
  · split at h
    · rename_i hs
      exact ⟨sq h, fun env x => by cases it <;> first | rfl | cases hs⟩
    · cases h
/-! ### targets compiled -/
theorem slotOf_ok (Hyp : Hy X c E Γ) {i : Nat} (h : slotOf E e = some i) : ∃ x p, e = .Name x p ∧ X.N[i]? = some x ∧ Loc X.env.scope x ∧ (X.fn x = true ∨ X.env.scope.names.lookup x = some .local) := by
  unfold slotOf at h
  split at h
  · rename_i x p
    split at h
    · rename_i hc
      rw [Bool.and_eq_true, Bool.or_eq_true] at hc
      refine ⟨x, p, rfl, by rw [Hyp.hN]; exact idxN_ok h, by rw [Hyp.sc]; exact loc_ok hc.1, hc.2.imp (Hyp.fn x) fun z => ?_⟩
      rw [Hyp.sc]; exact of_decide_eq_true z
    · cases h
  · cases h
theorem slotsOf_ok (Hyp : Hy X c E Γ) : ∀ {es : List Expr} {is : List Nat}, slotsOf E es = some is → PGs X es (is.foldr (fun i g => gCons (gName i) g) gNil) ∧ (assignEach es X.env).length = is.length ∧ (assignEach es X.env).findIdx? (·.1) = none
  | [], is, h => by cases h; exact ⟨pgs_nil, rfl, rfl⟩
  | e :: es, is, h => by
    unfold slotsOf at h
    cases h1 : slotOf E e with
    | none => rw [h1] at h; cases h
    | some i =>
      cases h2 : slotsOf E es with
      | none => rw [h1, h2] at h; cases h
      | some js =>
        rw [h1, h2] at h
        cases h
        obtain ⟨x, p, rfl, hN, hl, hf⟩ := slotOf_ok Hyp h1
        obtain ⟨g1, g2, g3⟩ := slotsOf_ok Hyp h2
        have ea : assignEach (.Name x p :: es) X.env = (false, assign (.Name x p) X.env) :: assignEach es X.env := rfl
        refine ⟨pgs_cons (pg_name (by rw [Hyp.hN]; exact Hyp.nd) hN hl hf) g1 rfl, by rw [ea, List.length_cons, List.length_cons, g2], ?_⟩
        rw [ea, List.findIdx?_cons]
        dsimp only
        rw [g3]; rfl
theorem compG_ok (Hyp : Hy X c E Γ) {g : Tg} (h : compG E e = some g) : PG X e (gTg X.K g) := by
  unfold compG at h
  split at h
  · rename_i es k p
    split at h
    · cases h1 : slotsOf E es with
      | none => rw [h1] at h; cases h
      | some is =>
        rw [h1] at h; cases h
        obtain ⟨g1, g2, g3⟩ := slotsOf_ok Hyp h1
        exact pg_tup (Hyp.calm ‹_›) g1 g2 g3
    · cases h
  · cases h1 : slotOf E e with
    | none => rw [h1] at h; cases h
    | some i =>
      rw [h1] at h; cases h
      obtain ⟨x, p, rfl, hN, hl, hf⟩ := slotOf_ok Hyp h1
      exact pg_name (by rw [Hyp.hN]; exact Hyp.nd) hN hl hf
theorem Hy.blk' (Hyp : Hy X c E Γ) (hcalm : E.calm = true) {c' : Ct} (h1 : c'.own = c.own) (h2 : c'.cm = c.cm) (h3 : c'.ea = c.ea) {scope : Scope} {s : Shared} {H0 : Hp} {C : Addr} {cl : List (Str × Addr)} {fp : List Addr} : Hy (X.blk s H0 scope (compEnvC scope cl C X.env) fp) c' { E with sc := relS scope E.sc, blk := some scope } Γ where
  hN := Hyp.hN
  nd := Hyp.nd
  sc := by
    show relabel scope X.env = relS scope E.sc
    rw [← Hyp.sc]; rfl
  fn := fun x h => h
  calm := Hyp.calm
  cea := fun z => by rw [h3]; exact Hyp.cea z
  isx := fun C D a b z => by rw [h3, Hyp.cea hcalm] at z; cases z
  hu := Hyp.hu
  bl := Hyp.bl
  cs := Hyp.cs
  fns := fun x m h => by rw [h2]; exact Hyp.fns x m h
  r := by rw [h1]; exact Hyp.r
end
end Py

set_option Elab.async false
set_option linter.all false
set_option maxRecDepth 100000
set_option maxHeartbeats 2000000
/-! PyL: all expressions. -/
namespace Py
open PySem PySem.Spec PyProof.Rows L2
open Evl (Ex)
open Eng (dp_up dp_upAll dall_len dall_get dall_getV dall_app dall_set dp_int dp_str dp_bl dp_non dp_list dp_tup wE wT wA wS wB pe_w pt_w pa_w ps_w pss_w wE_of wT_of wA_of wS_of wB_of wE_mono wT_mono wA_mono)
section
variable {X : Cx} {c : Ct} {E : CE} {Γ : Gm} {A A1 : AS} {e a b tg it elt : Expr} {es ifs : List Expr}
theorem tests_ok {f : Expr → Option Tm} (hf : ∀ e t, f e = some t → Good X c Γ e t) {ts : Tms} (h : compL f ifs = some ts) : ∀ A o, evTs Γ ts A = some o → STs X c ifs A o := fun A o q => by
  cases ifs with
  | nil =>
    cases h
    cases (ret_inv q)
    exact sts_nil
  | cons e1 rest =>
    unfold compL at h
    split at h
    · cases h1 : f e1 with
      | none => rw [h1] at h; cases h
      | some t =>
        cases h2 : compL f rest with
        | none => rw [h1, h2] at h; cases h
        | some us =>
          rw [h1, h2] at h
          cases h
          cases us with
          | nil =>
            cases rest with
            | nil => exact sts_one ((hf _ _ h1).2 A o q)
            | cons e2 r2 =>
              unfold compL at h2
              split at h2
              · cases h3 : f e2 with
                | none => rw [h3] at h2; cases h2
                | some t2 =>
                  cases h4 : compL f r2 with
                  | none => rw [h3, h4] at h2; cases h2
                  | some us2 => rw [h3, h4] at h2; cases h2
              · cases h2
          | cons _ _ => cases q
    · cases h
theorem good_com {f f' : Expr → Option Tm} {scope : Scope} {pos : Pos} {i : Itr} {g : Tg} {ts : Tms} {t : Tm} {fr : Bool} {own : List (Str × Nat)} (Hyp : Hy X c E Γ) (hf : ∀ e t, f e = some t → Good X c Γ e t)
    (hf' : ∀ (X' : Cx) (c' : Ct), Hy X' c' { E with sc := relS scope E.sc, blk := some scope } Γ → ∀ e t, f' e = some t → Good X' c' Γ e t)
    (hb : blkC E.N E.sc scope own = true) (hcalm : E.calm = true) (h1 : compIt f E tg it = some i) (h2 : compG { E with sc := relS scope E.sc, blk := some scope } tg = some g) (h3 : compL f' ifs = some ts) (h4 : f' elt = some t)
    (h5 : g.slots.all (fun i => decide (i ∈ own.map (·.2))) = true) : Good X c Γ (.ListComp elt [⟨tg, it, ifs, 0⟩] scope pos) (.com fr t g i ts (own.map (·.2))) := good_val (fun A o q => by
  have q : ((evI Γ i).nox.bind fun ds => fun A => if 1000000 < ds.length then none else match comGo g (own.map (·.2)) (evTs Γ ts) (ev Γ t) Γ.r ds [] ⟨wipeV A.ρ (own.map (·.2)), A.μ⟩ with
    | some (.ok acc A1) => alloc fr acc A1
    | _ => none) A = some o := q
  obtain ⟨ds, A1, q1, q⟩ := nbind q
  split at q
  · cases q
  · rename_i hl
    split at q
    · rename_i acc A2 hrun
      obtain ⟨k1, k2⟩ := compIt_ok hf Hyp h1
      intro G ps σ H S _
      rw [← Hyp.r] at hrun
      refine wE_of (pe_lc (g := gTg X.K g) (Hyp.calm hcalm) (by rw [Hyp.hN]; exact Hyp.nd) Eng.pi_w (by rw [Hyp.hN, Hyp.sc]; exact blkOk_by hb) (fun s H0 C cl fp => compG_ok (c := c) (Γ := Γ) (Hyp.blk' hcalm rfl rfl rfl) h2) (fun _ _ _ _ _ => Eng.bT_ok) (fun _ _ _ _ _ => Eng.bE_ok) (k2 _)) ?_
      refine com_ok (k1 _ _ q1) (by omega) (fun i hi => ?_) (fun c' A o e1 e2 e3 r s H0 C cl fp => ?_) (fun c' A o e1 e2 e3 r s H0 C cl fp => ?_) hrun q S (fun _ _ q => q)
      · exact of_decide_eq_true (List.all_eq_true.mp h5 i hi)
      · exact tests_ok (hf' _ _ (Hyp.blk' hcalm e1 e2 e3)) h3 _ _ r
      · exact (hf' _ _ (Hyp.blk' hcalm e1 e2 e3) _ _ h4).1 _ _ r
    · cases q) (fun _ => rfl)
theorem constD_ok {k : Const} {d : PyData} {j : Nat} {pos : Pos} (h : constD k = some d) : Good X c Γ (.Constant k j pos) (.dat d) := good_val (fun A o q => by
  cases (ret_inv q)
  cases k <;> cases h
  · exact se_dat pe_non (fun _ => .non)
  · exact se_dat pe_bl (fl_bl _)
  · exact se_dat pe_int (fl_int _)
  · exact se_dat pe_str (fl_str _)) (fun _ => rfl)
theorem good_var {i : Nat} {x : Str} {pos : Pos} (Hyp : Hy X c E Γ) (h : idxN E.N x = some i) (hv : visB E.sc x = true) (hk : okN x = true) : Good X c Γ (.Name x pos) (.var i) := good_val (fun A o q => by
  obtain ⟨k1, k2⟩ := okN_ok hk
  have q : (match A.ρ[i]? with
    | some (.dat d) => some (.ok (.dat d) A)
    | some (.own k) => some (.ok (.own k) A)
    | _ => none) = some o := q
  split at q
  · cases q
    exact se_var ‹_› (fun z => nomatch z) (fun _ z => nomatch z) (by rw [Hyp.hN]; exact idxN_ok h) (by rw [Hyp.sc]; exact vis_ok hv) k1 k2
  · cases q
    exact se_var ‹_› (fun z => nomatch z) (fun _ z => nomatch z) (by rw [Hyp.hN]; exact idxN_ok h) (by rw [Hyp.sc]; exact vis_ok hv) k1 k2
  · cases q) (fun _ => rfl)
theorem good_glob {d : PyData} {x : Str} {pos : Pos} (Hyp : Hy X c E Γ) (h : E.cs.lookup x = some d) (hg : E.gl x = true) (hk : okN x = true) : Good X c Γ (.Name x pos) (.dat d) := good_val (fun A o q => by
  cases (ret_inv q)
  obtain ⟨v, u, h1, h2, h3⟩ := Hyp.cs x d h
  exact se_glob h1 h2 h3 (Hyp.gl hg) (okN_ok hk).1) (fun _ => rfl)
/-- what is compiled, is right -/
def Okay (X : Cx) (c : Ct) (Γ : Gm) (e : Expr) (t : Tm) : Prop := Good X c Γ e t ∧ ∀ op es pos, e = .BoolOp op es pos → GoodW X c Γ e t
theorem okay {t : Tm} (h : Good X c Γ e t) (hn : ∀ op es pos, e ≠ .BoolOp op es pos) : Okay X c Γ e t := ⟨h, fun op es pos q => absurd q (hn op es pos)⟩
theorem map_some {α β : Type} {f : α → β} {o : Option α} {y : β} (h : o.map f = some y) : ∃ x, o = some x ∧ f x = y := by
  cases o with
  | none => cases h
  | some x => exact ⟨x, rfl, Option.some.inj h⟩
theorem frF {fr : Bool} {t : Tm} {o : Option Tm} (h : (if fr = true then none else o) = some t) : o = some t := by
  split at h
  · cases h
  · exact h
theorem comp_ok : ∀ (n : Nat) {X : Cx} {c : Ct} {E : CE} {Γ : Gm} {fr : Bool} {e : Expr} {t : Tm}, Hy X c E Γ → comp n E fr e = some t → Okay X c Γ e t
  | 0, _, _, _, _, _, _, _, _, h => by cases h
  | n + 1, X, c, E, Γ, fr, e, t, Hyp, h => by
    have ih : ∀ e t, comp n E false e = some t → Good X c Γ e t := fun e t h => (comp_ok n Hyp h).1
    have ihf : ∀ fr e t, comp n E fr e = some t → Good X c Γ e t := fun fr e t h => (comp_ok n Hyp h).1
    unfold comp at h
    split at h
    · -- a constant
      obtain ⟨d, h1, rfl⟩ := map_some (frF h)
      exact okay (constD_ok h1) (fun _ _ _ z => nomatch z)
    · -- a name
      split at h
      · rename_i hk
        split at h
        · rename_i hv
          obtain ⟨i, h1, rfl⟩ := map_some h
          exact okay (good_var Hyp h1 hv hk) (fun _ _ _ z => nomatch z)
        · split at h
          · rename_i hg
            obtain ⟨d, h1, rfl⟩ := map_some h
            exact okay (good_glob Hyp h1 hg hk) (fun _ _ _ z => nomatch z)
          · cases h
      · cases h
    · -- two operands
      split at h
      · rename_i ho
        rw [ho.1]
        split at h
        · cases h; exact okay (good_cat (ihf _ _ _ ‹_›) (ihf _ _ _ ‹_›)) (fun _ _ _ z => nomatch z)
        · cases h
      · split at h
        · rename_i ho
          rw [ho.1]
          split at h
          · cases h; exact okay (good_rep (ihf _ _ _ ‹_›) (ihf _ _ _ ‹_›)) (fun _ _ _ z => nomatch z)
          · cases h
        · replace h := frF h
          split at h
          · cases h; exact okay (good_bin (ih _ _ ‹_›) (ih _ _ ‹_›)) (fun _ _ _ z => nomatch z)
          · cases h
    · replace h := frF h
      split at h
      · split at h
        · rename_i ho
          subst ho
          cases h; exact okay (good_not (ih _ _ ‹_›)) (fun _ _ _ z => nomatch z)
        · cases h; exact okay (good_un ‹_› (ih _ _ ‹_›)) (fun _ _ _ z => nomatch z)
      · cases h
    · -- comparisons
      replace h := frF h
      split at h
      · split at h
        · cases h
        · rename_i hm
          split at h
          · cases h; exact okay (good_cmp Hyp.hu (by simpa using hm) (ih _ _ ‹_›) (ih _ _ ‹_›)) (fun _ _ _ z => nomatch z)
          · cases h
      · split at h
        · cases h
        · rename_i hm
          split at h
          · cases h; exact okay (good_chn Hyp.hu (by simpa using hm) (ih _ _ ‹_›) (ih _ _ ‹_›) (ih _ _ ‹_›)) (fun _ _ _ z => nomatch z)
          · cases h
      · cases h
    · -- and, or
      replace h := frF h
      split at h
      · cases h
      · rename_i op pos es a
        have g := ih _ _ h
        have w : GoodW X c Γ (.BoolOp op [a] pos) t := fun A o q => by
          cases op with
          | And => exact sw_one1 (g.2 _ _ q)
          | Or => exact sw_one2 (g.2 _ _ q)
        exact ⟨⟨fun A o q => se_one (g.1 _ _ q), fun A o q => sw_st (w A o q)⟩, fun _ _ _ _ => w⟩
      · rename_i op pos es a b rest
        split at h
        · rename_i t1 u1 h1 h2
          have g2 := comp_ok n Hyp h2
          cases op with
          | And =>
            cases h
            obtain ⟨k1, k2⟩ := good_and (ih _ _ h1) g2.1 (g2.2 _ _ _ rfl)
            exact ⟨k1, fun _ _ _ _ => k2⟩
          | Or =>
            cases h
            obtain ⟨k1, k2⟩ := good_or (ih _ _ h1) g2.1 (g2.2 _ _ _ rfl)
            exact ⟨k1, fun _ _ _ _ => k2⟩
        · cases h
    · split at h
      · cases h; exact okay (good_ite (ih _ _ ‹_›) (ihf _ _ _ ‹_›) (ihf _ _ _ ‹_›)) (fun _ _ _ z => nomatch z)
      · cases h
    · replace h := frF h
      split at h
      · obtain ⟨ts, h1, rfl⟩ := map_some h
        exact okay (good_tup Hyp.r (goods_ok ih h1).1) (fun _ _ _ z => nomatch z)
      · cases h
    · obtain ⟨ts, h1, rfl⟩ := map_some h
      exact okay (good_lst Hyp.r (goods_ok ih h1).1) (fun _ _ _ z => nomatch z)
    · -- an index, a cut
      replace h := frF h
      split at h
      · split at h
        · cases h; exact okay (good_slc ih (ih _ _ ‹_›) ‹_› ‹_›) (fun _ _ _ z => nomatch z)
        · cases h
      · split at h
        · split at h
          · cases h; exact okay (good_idx ‹_› (ih _ _ ‹_›) (ih _ _ ‹_›)) (fun _ _ _ z => nomatch z)
          · cases h
        · cases h
    · -- calls
      split at h
      · split at h
        · split at h
          · rename_i hx
            subst hx
            replace h := frF h
            split at h
            · split at h
              · rename_i hxs
                split at h
                · rename_i hc
                  rw [Bool.and_eq_true, Bool.and_eq_true] at hc
                  split at h
                  · split at h
                    · rename_i he
                      rw [Bool.and_eq_true] at he
                      obtain ⟨i, h1, rfl⟩ := map_some h
                      exact okay (good_isx Hyp hc.1.1 hxs hc.1.2 (by simpa using hc.2) h1 he.2 he.1) (fun _ _ _ z => nomatch z)
                    · cases h
                  · cases h
                · cases h
              · split at h
                · rename_i hs
                  rw [Bool.and_eq_true] at hs
                  split at h
                  · rename_i hT
                    split at h
                    · rename_i hb2
                      cases h
                      obtain ⟨e1, e2⟩ := tyOf_ok hT
                      subst e1
                      exact okay (good_isi Hyp hs.1 hb2 hs.2 e2 (ih _ _ ‹_›)) (fun _ _ _ z => nomatch z)
                    · cases h
                  · cases h
                · cases h
            · cases h
          · split at h
            · rename_i hx
              split at h
              · cases h
              · rename_i hcalm
                split at h
                · rename_i hbf
                  split at h
                  · cases h
                  · obtain ⟨ts, h1, rfl⟩ := map_some h
                    have e1 := bfOf_ok hbf
                    subst e1
                    obtain ⟨k1, k2⟩ := goods_ok ih h1
                    exact okay (good_bi Hyp (by simpa using hcalm) hx k1 k2) (fun _ _ _ z => nomatch z)
                · cases h
            · split at h
              · rename_i hx
                rw [Bool.and_eq_true] at hx
                split at h
                · rename_i hm
                  split at h
                  · cases h
                  · obtain ⟨ts, h1, rfl⟩ := map_some h
                    obtain ⟨k1, k2⟩ := goods_ok ih h1
                    exact okay (good_call Hyp hm hx.1 (by simpa using hx.2) k1 k2) (fun _ _ _ z => nomatch z)
                · cases h
              · cases h
        · split at h
          · rename_i hx
            obtain ⟨e1, e2, e3⟩ := hx
            subst e1; subst e2
            split at h
            · rename_i hb
              split at h
              · split at h
                · obtain ⟨u, h1, rfl⟩ := map_some h
                  exact okay (good_sortr Hyp e3 hb ‹_› (ih _ _ h1)) (fun _ _ _ z => nomatch z)
                · cases h
              · cases h
            · cases h
          · cases h
        · cases h
      · replace h := frF h
        split at h
        · split at h
          · rename_i hx
            obtain ⟨e1, e2, e3⟩ := hx
            subst e1
            obtain ⟨u, h1, rfl⟩ := map_some h
            exact okay (good_blen e2 e3 (ih _ _ h1)) (fun _ _ _ z => nomatch z)
          · cases h
        · split at h
          · split at h
            · rename_i hx
              obtain ⟨e1, e2, e3, e4⟩ := hx
              subst e1; subst e2; subst e3
              obtain ⟨u, h1, rfl⟩ := map_some h
              exact okay (good_bits e4 (ih _ _ h1)) (fun _ _ _ z => nomatch z)
            · cases h
          · cases h
        · cases h
      · cases h
    · -- comprehensions
      split at h
      · dsimp only at h
        split at h
        · rename_i hb
          rw [Bool.and_eq_true] at hb
          split at h
          · split at h
            · rename_i hc
              rw [Bool.and_eq_true] at hc
              cases h
              exact okay (good_com Hyp ih (fun X' c' H' e t q => (comp_ok n H' q).1) hb.1 hb.2 ‹_› ‹_› ‹_› ‹_› hc.1) (fun _ _ _ z => nomatch z)
            · cases h
          · cases h
        · cases h
      · cases h
    · cases h
end
end Py

set_option Elab.async false
set_option linter.all false
set_option maxRecDepth 100000
set_option maxHeartbeats 2000000
/-! PyM: statements. -/
namespace Py
open PySem PySem.Spec PyProof.Rows L2
open Evl (Ex)
open Eng (dp_up dp_upAll dall_len dall_get dall_getV dall_app dall_set dp_int dp_str dp_bl dp_non dp_list dp_tup wE wT wA wS wB pe_w pt_w pa_w ps_w pss_w wE_of wT_of wA_of wS_of wB_of wE_mono wT_mono wA_mono wB_mono)
def XOkF (X : Cx) (c : Ct) : Fl → Prop
  | .ex C A => XOkC X c C A
  | _ => True
/-- how a block ends -/
def fin (X : Cx) (c : Ct) (o : Fl) : Ends where
  nx := fun σ H => ∃ A G ps, o = .nx A ∧ St X.K c A G ps σ H
  rt := fun v H => ∃ sv A G ps σ, o = .rt sv A ∧ St X.K c A G ps σ H ∧ VOk X.K G ps v sv
  bk := fun σ H => ∃ A G ps, o = .bk A ∧ St X.K c A G ps σ H
  ct := fun σ H => ∃ A G ps, o = .ct A ∧ St X.K c A G ps σ H
def SS (X : Cx) (c : Ct) (st : Stmt) (A : AS) (o : Fl) : Prop := ∀ G ps σ H, St X.K c A G ps σ H → XOkF X c o → wS X st (fin X c o) σ H
def SB (X : Cx) (c : Ct) (sts : List Stmt) (A : AS) (o : Fl) : Prop := ∀ G ps σ H, St X.K c A G ps σ H → XOkF X c o → wB X sts (fin X c o) σ H
/-- a class of one's own whose instances are raised -/
def MkC (X : Cx) (C : Str) : Prop := ∃ a B newId initId bmB, ExcBaseFacts B newId initId bmB ∧ PySem.W.excIn X.K a bmB newId = true ∧ X.mg C = some (.ref a) ∧ PySem.W.keepIn X.K (.ref a) = true ∧ Raises X (.ref a)
/-- the context fits, for statements -/
structure HyS (X : Cx) (c : Ct) (E : CE) (Γ : Gm) : Prop extends Hy X c E Γ where
  hp : PassesOwn (model X.prog X.w) X.A X.env X.xe
  stk : X.stack = X.env :: X.outer
  frm : X.env.frame = some X.env.locals
  mkc : ∀ C, E.xs.contains C = true → MkC X C
  exc : ∀ D C b, Γ.sub D C = some b → ∃ a cv, X.mg D = some (.ref a) ∧ X.mg C = some (.ref cv) ∧ ExcC X.K a ∧ PySem.W.exmOne X.K (.ref a) (.ref cv) = some b ∧ PySem.W.kitOne X.K (.ref a) (.ref cv) = some b
section
variable {X : Cx} {c : Ct} {E : CE} {Γ : Gm} {A A1 A2 A0 : AS} {e a b tg it : Expr} {es : List Expr} {st : Stmt} {sts rest : List Stmt} {o : Fl} {pos : Pos}
theorem sb_nil : SB X c [] A (.nx A) := fun G ps σ H S _ => wB_of pss_nil ⟨A, G, ps, rfl, S⟩
theorem sb_cons (h1 : SS X c st A (.nx A1)) (h2 : SB X c rest A1 o) : SB X c (st :: rest) A o := fun G ps σ H S x pins s I => by
  refine wpAny_execs_cons (thn (h1 G ps σ H S True.intro pins s I) fun f s1 q => ?_)
  cases f with
  | next =>
    obtain ⟨σ', H', I', A', G', ps', e, S'⟩ := q
    cases e
    exact h2 G' ps' σ' H' S' x pins s1 I'
  | ret v => obtain ⟨_, _, _, _, _, _, _, _, _, _, e, _⟩ := q; cases e
  | brk => obtain ⟨_, _, _, _, _, _, e, _⟩ := q; cases e
  | cont => obtain ⟨_, _, _, _, _, _, e, _⟩ := q; cases e
theorem sb_stop (h1 : SS X c st A o) (hn : ∀ A1, o ≠ .nx A1) : SB X c (st :: rest) A o := fun G ps σ H S x pins s I => by
  refine wpAny_execs_cons (thn (h1 G ps σ H S x pins s I) fun f s1 q => ?_)
  cases f with
  | next => obtain ⟨_, _, _, _, _, _, e, _⟩ := q; exact absurd e (hn _)
  | ret v => exact q
  | brk => exact q
  | cont => exact q
theorem seq_inv {f g : F} (h : F.seq f g A = some o) : (∃ A1, f A = some (.nx A1) ∧ g A1 = some o) ∨ (f A = some o ∧ ∀ A1, o ≠ .nx A1) := by
  unfold F.seq at h
  split at h
  · exact .inl ⟨_, ‹_›, h⟩
  · rename_i hn
    exact .inr ⟨h, fun A1 z => hn A1 (by rw [h, z])⟩
/-! ### an expression, then the rest -/
theorem then_ok {t : Tm} {f : SV → F} (g : Good X c Γ e t) (h : ((ev Γ t).then f) A = some o) {G : Hp} {ps : List Addr} {σ : L2.St} {H : Hp} (S : St X.K c A G ps σ H) (x : XOkF X c o) {Q : VK}
    (k : ∀ sv A1 v H1 G1 qs, f sv A1 = some o → Ex G G1 → Ext ps qs → St X.K c A1 G1 qs σ H1 → VOk X.K G1 qs v sv → Q v H1) : wE X e σ H Q := by
  rcases then_inv h with ⟨sv, A1, h1, h2⟩ | ⟨C, A1, h1, rfl⟩
  · exact go1 (g.1 _ _ h1) S fun v H1 G1 qs e1 x1 S1 r1 => k sv A1 v H1 G1 qs h2 e1 x1 S1 r1
  · exact goX (g.1 _ _ h1) S x
theorem put_inv {i : Nat} {s : SV} (h : putV i s A = some o) : o = .nx ⟨A.ρ.set i s, A.μ⟩ := (Option.some.inj h).symm
/-- name = e -/
theorem ss_asg {t : Tm} {i : Nat} {x : Str} {p : Pos} (Hyp : Hy X c E Γ) (hs : slotOf E (.Name x p) = some i) (g : Good X c Γ e t) (hsw : swapsWith e (some (.Name x p)) pos.line X.env = pure false) (h : exS Γ (.asg i t) A = some o) : SS X c (.Assign [.Name x p] e pos) A o := fun G ps σ H S xk => by
  obtain ⟨y, p', e', hN, hl, hf⟩ := slotOf_ok Hyp hs
  cases e'
  have h : ((ev Γ t).then fun s => putV i s) A = some o := h
  refine wS_of (ps_asg pe_w (pg_name (by rw [Hyp.hN]; exact Hyp.nd) hN hl hf) hsw rfl rfl) (then_ok g h S xk fun sv A1 v H1 G1 qs h2 e1 x1 S1 r1 => ?_)
  cases (put_inv h2)
  exact ⟨_, G1, qs, rfl, S1.put r1⟩
/-- name, name = e -/
theorem ss_asgT {t : Tm} {is : List Nat} {ts : List Expr} {k : Nat} {p : Pos} (Hyp : Hy X c E Γ) (hs : compG E (.Tuple ts k p) = some (.tup is)) (g : Good X c Γ e t) (hsw : swapsWith e (some (.Tuple ts k p)) pos.line X.env = pure false) (hw : swappedStores [.Tuple ts k p] e X.env = pure none) (h : exS Γ (.asgT is t) A = some o) : SS X c (.Assign [.Tuple ts k p] e pos) A o := fun G ps σ H S xk => by
  have h : ((ev Γ t).then fun s => (view s).then fun d => match d with
    | .tuple ds => fun A => match setNs is ds A.ρ with
      | some ρ => some (.nx ⟨ρ, A.μ⟩)
      | none => none
    | _ => fun _ => none) A = some o := h
  refine wS_of (ps_asg pe_w (compG_ok Hyp hs) hsw hw rfl) (then_ok g h S xk fun sv A1 v H1 G1 qs h2 e1 x1 S1 r1 => ?_)
  rcases then_inv h2 with ⟨d, A2, h3, h4⟩ | ⟨C, A2, h3, rfl⟩
  · obtain ⟨d', h5, h6⟩ := view_inv h3
    cases h6
    split at h4
    · rename_i ds
      split at h4
      · rename_i ρ hρ
        cases h4
        have rd : Dp X.K G1 v (.tuple ds) := by
          cases sv with
          | dat d0 => cases h5; exact r1
          | own k =>
            unfold viewOf at h5
            dsimp only at h5
            split at h5 <;> cases h5
          | any => cases h5
          | exc C => cases h5
        obtain ⟨σ2, S2, _, hk⟩ := tg_ok (tg := .tup is) (d := .tuple ds) hρ S1 rd
        exact hk _ ⟨_, G1, qs, rfl, S2⟩
      · cases h4
    · cases h4
  · obtain ⟨d', h5, h6⟩ := view_inv h3; cases h6
theorem ss_asg2 {t : Tm} {i j : Nat} {x y : Str} {p q : Pos} (Hyp : Hy X c E Γ) (hs : slotOf E (.Name x p) = some i) (hs2 : slotOf E (.Name y q) = some j) (g : Good X c Γ e t) (h : exS Γ (.asg2 i j t) A = some o) : SS X c (.Assign [.Name x p, .Name y q] e pos) A o := fun G ps σ H S xk => by
  obtain ⟨y1, p', e', hN, hl, hf⟩ := slotOf_ok Hyp hs
  cases e'
  obtain ⟨y2, p2', e', hN2, hl2, hf2⟩ := slotOf_ok Hyp hs2
  cases e'
  have h : ((ev Γ t).then fun s => fun A => some (.nx ⟨(A.ρ.set i s).set j s, A.μ⟩)) A = some o := h
  have nd : X.N.Nodup := by rw [Hyp.hN]; exact Hyp.nd
  refine wS_of (ps_asg2 pe_w (pg_name nd hN hl hf) (pg_name nd hN2 hl2 hf2) rfl rfl) (then_ok g h S xk fun sv A1 v H1 G1 qs h2 e1 x1 S1 r1 => ?_)
  cases h2
  exact ⟨_, G1, qs, rfl, (S1.put r1).put r1⟩
/-- name op= e -/
theorem ss_aug {t : Tm} {i : Nat} {op : Operator} {x : Str} {p : Pos} (Hyp : Hy X c E Γ) (hs : slotOf E (.Name x p) = some i) (g : Good X c Γ e t) (ho : op = .Add ∨ op = .BitXor ∨ op = .BitOr ∨ op = .Sub ∨ op = .BitAnd) (h : exS Γ (.aug i op t) A = some o) : SS X c (.AugAssign (.Name x p) op e pos) A o := fun G ps σ H S xk => by
  obtain ⟨y, p', e', hN, hl, hf⟩ := slotOf_ok Hyp hs
  cases e'
  have h : (match A.ρ[i]? with
    | some (.dat d) => ((ev Γ t).then fun s => (view s).then fun d2 => (M.of (binD op d d2)).then fun r => putV i (.dat r)) A
    | _ => none) = some o := h
  split at h
  · rename_i d hρ
    obtain ⟨v0, hs0, r0⟩ := S.sl i _ hρ
    have iw : PIp X op (fun x y H Q => ∀ pins s σ v u, Inv X pins σ H s → RelV x v → RelV y u → wpAny (model X.prog X.w) X.A (inplaceOp op v u) (EP X pins σ Q) X.xe s) := fun pins s σ _ _ _ v u _ I r1 r2 h => h pins s σ v u I r1 r2
    refine wS_of (ps_aug (by rw [Hyp.hN]; exact Hyp.nd) hN hl pe_w iw hf) ⟨v0, hs0, then_ok g h S xk fun sv A1 v H1 G1 qs h2 e1 x1 S1 r1 => ?_⟩
    rcases then_inv h2 with ⟨d2, A2, h3, h4⟩ | ⟨C, A2, h3, rfl⟩
    · obtain ⟨d2', h5, h6⟩ := view_inv h3
      cases h6
      rcases then_inv h4 with ⟨r, A3, h7, h8⟩ | ⟨C, A3, h7, rfl⟩
      · obtain ⟨r', h9, h10⟩ := of_inv h7
        cases h10
        cases (put_inv h8)
        obtain ⟨rr, hop, hq⟩ := ibin_ok (X := X) h9 ho
        intro pins s σ' v' u' I ra rb
        refine hop pins s σ' H1 _ _ v' u' _ I ra rb (hq _ _ _ _ ((VOk.up (s := .dat d) e1 x1 r0).view S1.hs rfl) (r1.view S1.hs h5) fun z hz => ?_)
        exact ⟨_, G1, qs, rfl, S1.put (sv := .dat r) (hz G1)⟩
      · obtain ⟨r', h9, h10⟩ := of_inv h7; cases h10
    · obtain ⟨d2', h5, h6⟩ := view_inv h3; cases h6
  · cases h
theorem ss_ret {t : Tm} (g : Good X c Γ e t) (h : exS Γ (.ret t) A = some o) : SS X c (.Return (some e) pos) A o := fun G ps σ H S xk => by
  have h : ((ev Γ t).then fun s => fun A => some (.rt s A)) A = some o := h
  refine wS_of (ps_ret pe_w) (then_ok g h S xk fun sv A1 v H1 G1 qs h2 e1 x1 S1 r1 => ?_)
  cases h2
  exact ⟨sv, A1, G1, qs, σ, rfl, S1, r1⟩
theorem ss_retN (h : exS Γ (.ret (.dat .none)) A = some o) : SS X c (.Return none pos) A o := fun G ps σ H S xk => by
  cases h
  exact wS_of ps_retN ⟨_, A, G, ps, σ, rfl, S, (.non : Dp _ _ _ _)⟩
theorem ss_pass (h : exS Γ .pass A = some o) : SS X c (.Pass pos) A o := fun G ps σ H S xk => by
  cases h; exact wS_of ps_pass ⟨A, G, ps, rfl, S⟩
theorem ss_doc {x : Str} {j : Nat} {p1 : Pos} (h : exS Γ .pass A = some o) : SS X c (.Expr (.Constant (.str x) j p1) pos) A o := fun G ps σ H S xk => by
  cases h; exact wS_of ps_doc ⟨A, G, ps, rfl, S⟩
theorem ss_brk (h : exS Γ .brk A = some o) : SS X c (.Break pos) A o := fun G ps σ H S xk => by
  cases h; exact wS_of ps_break ⟨A, G, ps, rfl, S⟩
theorem ss_cnt (h : exS Γ .cnt A = some o) : SS X c (.Continue pos) A o := fun G ps σ H S xk => by
  cases h; exact wS_of ps_continue ⟨A, G, ps, rfl, S⟩
theorem ss_drop {t : Tm} (g : Good X c Γ e t) (hsw : swapsWith e none pos.line X.env = pure false) (h : exS Γ (.drop t) A = some o) : SS X c (.Expr e pos) A o := fun G ps σ H S xk => by
  have h : ((ev Γ t).then fun _ => nxt) A = some o := h
  refine wS_of (ps_expr pe_w hsw) (then_ok g h S xk fun sv A1 v H1 G1 qs h2 e1 x1 S1 r1 => ?_)
  cases h2
  exact ⟨A1, G1, qs, rfl, S1⟩
theorem ss_if {t : Tm} {u v : List Sm} {sa sb : List Stmt} (g : Good X c Γ e t) (ha : ∀ A o, exB Γ u A = some o → SB X c sa A o) (hb : ∀ A o, exB Γ v A = some o → SB X c sb A o) (h : exS Γ (.ite t u v) A = some o) : SS X c (.If e sa sb pos) A o := fun G ps σ H S xk => by
  have h : (((ev Γ t).bind truM).then fun k => match k with
    | true => exB Γ u
    | false => exB Γ v) A = some o := h
  rcases then_inv h with ⟨k, A1, h1, h2⟩ | ⟨C, A1, h1, rfl⟩
  · refine wS_of (ps_if pt_w pss_w pss_w) (goT (g.2 _ _ h1) S fun H1 G1 qs e1 x1 S1 => ?_)
    cases k with
    | true => exact ha _ _ h2 G1 qs σ H1 S1 xk
    | false => exact hb _ _ h2 G1 qs σ H1 S1 xk
  · exact wS_of (ps_if pt_w pss_w pss_w) (goXT (g.2 _ _ h1) S xk)
/-! ### loops -/
theorem St.fgt {ρ : List SV} {μ : List ON} {G : Hp} {ps : List Addr} {σ : L2.St} {H : Hp} (S : St X.K c ⟨ρ, μ⟩ G ps σ H) : ∀ vs : List Nat, St X.K c ⟨wipeV ρ vs, μ⟩ G ps σ H
  | [] => S
  | j :: vs => (St.fgt S vs).forget
theorem XOkC.re {G : Hp} {ps : List Addr} {σ : L2.St} {H : Hp} {C : Str} (S : St X.K c A G ps σ H) (x : XOkC X c C A1) : XOkC X (c.re G ps H) C A1 := by
  obtain ⟨W, tk, a, hm, h⟩ := x
  exact ⟨W, tk, a, hm, fun G' ps' σ' H' S' => h G' ps' σ' H' (S.unre S')⟩
theorem XOkF.re {G : Hp} {ps : List Addr} {σ : L2.St} {H : Hp} (S : St X.K c A G ps σ H) (x : XOkF X c o) : XOkF X (c.re G ps H) o := by
  cases o with
  | ex C A => exact XOkC.re S x
  | _ => exact True.intro
theorem forGo_inv {tg : Tg} {ws : List Nat} {body : F} {d : PyData} {ds : List PyData} (h : forGo tg ws body (d :: ds) A = some o) : ∃ ρ1, tgSet tg d A.ρ = some ρ1 ∧ ∃ ob, body ⟨ρ1, A.μ⟩ = some ob ∧
    ((∃ A1, (ob = .nx A1 ∨ ob = .ct A1) ∧ forGo tg ws body ds ⟨wipeV A1.ρ ws, A1.μ⟩ = some o) ∨ (∃ A1, ob = .bk A1 ∧ o = .nx ⟨wipeV A1.ρ ws, A1.μ⟩) ∨ (ob = o ∧ ((∃ v A1, o = .rt v A1) ∨ ∃ C A1, o = .ex C A1))) := by
  unfold forGo at h
  cases h1 : tgSet tg d A.ρ with
  | none => rw [h1] at h; cases h
  | some ρ1 =>
    rw [h1] at h
    dsimp only at h
    refine ⟨ρ1, rfl, ?_⟩
    cases h2 : body ⟨ρ1, A.μ⟩ with
    | none => rw [h2] at h; cases h
    | some ob =>
      rw [h2] at h
      refine ⟨ob, rfl, ?_⟩
      cases ob with
      | nx A1 => exact .inl ⟨A1, .inl rfl, h⟩
      | ct A1 => exact .inl ⟨A1, .inr rfl, h⟩
      | bk A1 => exact .inr (.inl ⟨A1, rfl, (Option.some.inj h).symm⟩)
      | rt v A1 => cases h; exact .inr (.inr ⟨rfl, .inl ⟨v, A1, rfl⟩⟩)
      | ex C A1 => cases h; exact .inr (.inr ⟨rfl, .inr ⟨C, A1, rfl⟩⟩)
theorem for_ok {tg' : Tg} {ws : List Nat} {body : List Sm} {ds : List PyData} (Hyp : HyS X c E Γ) (hcalm : E.calm = true) (hI : SI X c tg it A (.ok ds A0)) (hg : compG E tg = some tg') (hs : ∀ x, foldedSetIterable it X.env x = pure x)
    (hB : ∀ (c' : Ct) (A : AS) (o : Fl), c'.own = c.own → c'.cm = c.cm → c'.ea = c.ea → exB Γ body A = some o → SB X c' sts A o)
    (run : forGo tg' ws (exB Γ body) ds ⟨wipeV A0.ρ ws, A0.μ⟩ = some o) : SS X c (.For tg it sts [] pos) A o := fun G ps σ H S xk => by
  refine wS_of (ps_for Hyp.hp (Hyp.calm hcalm) Eng.pi_w (compG_ok Hyp.toHy hg) pss_w hs) (Eng.wI_mono (hI G ps σ H S True.intro) fun J H1 ⟨ds', A0', e0, G1, ps1, ex1, xt1, S1, P⟩ => ?_)
  cases e0
  refine ⟨fun i m σ' H' => m = ds.length - i ∧ i ≤ ds.length ∧ ∃ ρi μi, forGo tg' ws (exB Γ body) (ds.drop i) ⟨ρi, μi⟩ = some o ∧ ∃ Gi qs, Ex G1 Gi ∧ St X.K c ⟨ρi, μi⟩ Gi qs σ' H',
    ⟨_, rfl, Nat.zero_le _, _, _, run, G1, ps1, Ex.refl _, S1.fgt ws⟩, ?_⟩
  rintro i m σ' H' ⟨rfl, hi, ρi, μi, hrun, Gi, qs, exi, Si⟩
  by_cases hlt : i < ds.length
  · refine .inr ⟨P.go i H' (exi.trans Si.hs.sub) hlt, fun σ'' H'' => i + 1 ≤ ds.length ∧ ∃ ρi μi, forGo tg' ws (exB Γ body) (ds.drop (i + 1)) ⟨ρi, μi⟩ = some o ∧ ∃ Gi qs, Ex G1 Gi ∧ St X.K c ⟨ρi, μi⟩ Gi qs σ'' H'',
      fun σ'' H'' q => ⟨ds.length - (i + 1), by omega, rfl, q⟩, fun x H2 y => ?_⟩
    rw [List.drop_eq_getElem_cons hlt] at hrun
    obtain ⟨ρ1, ht, ob, hb, hcase⟩ := forGo_inv hrun
    obtain ⟨G2, d, ex2, S2', hd, rd⟩ := P.next Si.re exi hlt y
    have ed : ds[i] = d := by rw [List.getElem?_eq_getElem hlt] at hd; exact Option.some.inj hd
    rw [ed] at ht
    have S2 := Si.unre S2'
    obtain ⟨σ2, S3, _, hk⟩ := tg_ok ht S2 rd
    refine hk _ ?_
    have xb : XOkF X c ob := by
      rcases hcase with ⟨A1, rfl | rfl, _⟩ | ⟨A1, rfl, _⟩ | ⟨rfl, _⟩
      · exact True.intro
      · exact True.intro
      · exact True.intro
      · exact xk
    refine wB_mono (hB (c.re G2 qs H2) _ _ rfl rfl rfl hb G2 qs σ2 H2 S3.re (XOkF.re S3 xb)) (fun σ4 H4 ⟨A4, G4, ps4, e4, S4⟩ => ?_) (fun v4 H4 ⟨sv, A4, G4, ps4, σ4, e4, S4, r4⟩ => ?_) (fun σ4 H4 ⟨A4, G4, ps4, e4, S4⟩ => ?_) (fun σ4 H4 ⟨A4, G4, ps4, e4, S4⟩ => ?_)
    · have ex4 : Ex G2 G4 := S4.hs.ex
      rcases hcase with ⟨A1, hor, hr⟩ | ⟨A1, e5, _⟩ | ⟨e5, e6⟩
      · have : A1 = A4 := by
          rcases hor with z | z
          · rw [e4] at z; cases z; rfl
          · rw [e4] at z; cases z
        subst this
        exact ⟨hlt, _, _, hr, G4, ps4, exi.trans (ex2.trans ex4), (S3.unre S4).fgt ws⟩
      · rw [e4] at e5; cases e5
      · rcases e6 with ⟨v, A1, rfl⟩ | ⟨C, A1, rfl⟩ <;> (rw [e4] at e5; cases e5)
    · rcases hcase with ⟨A1, hor, hr⟩ | ⟨A1, e5, _⟩ | ⟨e5, e6⟩
      · rcases hor with z | z <;> (rw [e4] at z; cases z)
      · rw [e4] at e5; cases e5
      · rw [e4] at e5; exact ⟨sv, A4, G4, ps4, σ4, e5.symm, S3.unre S4, r4⟩
    · rcases hcase with ⟨A1, hor, hr⟩ | ⟨A1, e5, e6⟩ | ⟨e5, e6⟩
      · rcases hor with z | z <;> (rw [e4] at z; cases z)
      · rw [e4] at e5; cases e5
        exact ⟨_, G4, ps4, e6, (S3.unre S4).fgt ws⟩
      · rcases e6 with ⟨v, A1, rfl⟩ | ⟨C, A1, rfl⟩ <;> (rw [e4] at e5; cases e5)
    · have ex4 : Ex G2 G4 := S4.hs.ex
      rcases hcase with ⟨A1, hor, hr⟩ | ⟨A1, e5, _⟩ | ⟨e5, e6⟩
      · have : A1 = A4 := by
          rcases hor with z | z
          · rw [e4] at z; cases z
          · rw [e4] at z; cases z; rfl
        subst this
        exact ⟨hlt, _, _, hr, G4, ps4, exi.trans (ex2.trans ex4), (S3.unre S4).fgt ws⟩
      · rw [e4] at e5; cases e5
      · rcases e6 with ⟨v, A1, rfl⟩ | ⟨C, A1, rfl⟩ <;> (rw [e4] at e5; cases e5)
  · have ei : i = ds.length := by omega
    subst ei
    refine .inl ⟨P.stop _ H' (exi.trans Si.hs.sub) (Nat.le_refl _), ?_⟩
    rw [List.drop_length] at hrun
    have er : o = .nx ⟨ρi, μi⟩ := (Option.some.inj hrun).symm
    exact ⟨_, Gi, qs, er, Si⟩
theorem whGo_inv {t : M Bool} {ws : List Nat} {body : F} {n : Nat} (h : whGo t ws body (n + 1) A = some o) : ∃ k A1, t A = some (.ok k A1) ∧ ((k = false ∧ o = .nx A1) ∨ (k = true ∧ ∃ ob, body A1 = some ob ∧
    ((∃ A2, (ob = .nx A2 ∨ ob = .ct A2) ∧ whGo t ws body n ⟨wipeV A2.ρ ws, A2.μ⟩ = some o) ∨ (∃ A2, ob = .bk A2 ∧ o = .nx ⟨wipeV A2.ρ ws, A2.μ⟩) ∨ (ob = o ∧ ((∃ v A1, o = .rt v A1) ∨ ∃ C A1, o = .ex C A1))))) := by
  unfold whGo at h
  cases h1 : t A with
  | none => rw [h1] at h; cases h
  | some o1 =>
    rw [h1] at h
    cases o1 with
    | ex C A1 => cases h
    | ok k A1 =>
      refine ⟨k, A1, rfl, ?_⟩
      cases k with
      | false => exact .inl ⟨rfl, (Option.some.inj h).symm⟩
      | true =>
        refine .inr ⟨rfl, ?_⟩
        dsimp only at h
        cases h2 : body A1 with
        | none => rw [h2] at h; cases h
        | some ob =>
          rw [h2] at h
          refine ⟨ob, rfl, ?_⟩
          cases ob with
          | nx A1 => exact .inl ⟨A1, .inl rfl, h⟩
          | ct A1 => exact .inl ⟨A1, .inr rfl, h⟩
          | bk A1 => exact .inr (.inl ⟨A1, rfl, (Option.some.inj h).symm⟩)
          | rt v A1 => cases h; exact .inr (.inr ⟨rfl, .inl ⟨v, A1, rfl⟩⟩)
          | ex C A1 => cases h; exact .inr (.inr ⟨rfl, .inr ⟨C, A1, rfl⟩⟩)
theorem while_ok {t : Tm} {ws : List Nat} {body : List Sm} (Hyp : HyS X c E Γ) (g : Good X c Γ e t) (hB : ∀ (A : AS) (o : Fl), exB Γ body A = some o → SB X c sts A o) (h : exS Γ (.while_ t body ws) A = some o) : SS X c (.While e sts [] pos) A o := fun G ps σ H S xk => by
  have h : whGo ((ev Γ t).bind truM) ws (exB Γ body) 1000000 A = some o := h
  refine wS_of (ps_while Hyp.hp pt_w pss_w) ⟨fun m σ' H' => ∃ A, whGo ((ev Γ t).bind truM) ws (exB Γ body) m A = some o ∧ ∃ G ps, St X.K c A G ps σ' H', ⟨_, A, h, G, ps, S⟩, ?_⟩
  rintro m σ' H' ⟨A, hr, G, ps, S⟩
  cases m with
  | zero => cases hr
  | succ m =>
    obtain ⟨k, A1, h1, hcase⟩ := whGo_inv hr
    refine goT (g.2 _ _ h1) S fun H1 G1 qs e1 x1 S1 => ?_
    rcases hcase with ⟨rfl, rfl⟩ | ⟨rfl, ob, hb, hcase⟩
    · exact ⟨A1, G1, qs, rfl, S1⟩
    · rw [if_pos rfl]
      have xb : XOkF X c ob := by
        rcases hcase with ⟨A1, rfl | rfl, _⟩ | ⟨A1, rfl, _⟩ | ⟨rfl, _⟩
        · exact True.intro
        · exact True.intro
        · exact True.intro
        · exact xk
      refine ⟨fun σ'' H'' => ∃ A, whGo ((ev Γ t).bind truM) ws (exB Γ body) m A = some o ∧ ∃ G ps, St X.K c A G ps σ'' H'', fun _ _ q => ⟨m, Nat.lt_succ_self m, q⟩, ?_⟩
      refine wB_mono (hB _ _ hb G1 qs σ' H1 S1 xb) (fun σ4 H4 ⟨A4, G4, ps4, e4, S4⟩ => ?_) (fun v4 H4 ⟨sv, A4, G4, ps4, σ4, e4, S4, r4⟩ => ?_) (fun σ4 H4 ⟨A4, G4, ps4, e4, S4⟩ => ?_) (fun σ4 H4 ⟨A4, G4, ps4, e4, S4⟩ => ?_)
      · rcases hcase with ⟨A1, hor, hr⟩ | ⟨A1, e5, _⟩ | ⟨e5, e6⟩
        · have : A1 = A4 := by
            rcases hor with z | z
            · rw [e4] at z; cases z; rfl
            · rw [e4] at z; cases z
          subst this
          exact ⟨_, hr, G4, ps4, S4.fgt ws⟩
        · rw [e4] at e5; cases e5
        · rcases e6 with ⟨v, A1, rfl⟩ | ⟨C, A1, rfl⟩ <;> (rw [e4] at e5; cases e5)
      · rcases hcase with ⟨A1, hor, hr⟩ | ⟨A1, e5, _⟩ | ⟨e5, e6⟩
        · rcases hor with z | z <;> (rw [e4] at z; cases z)
        · rw [e4] at e5; cases e5
        · rw [e4] at e5; exact ⟨sv, A4, G4, ps4, σ4, e5.symm, S4, r4⟩
      · rcases hcase with ⟨A1, hor, hr⟩ | ⟨A1, e5, e6⟩ | ⟨e5, e6⟩
        · rcases hor with z | z <;> (rw [e4] at z; cases z)
        · rw [e4] at e5; cases e5
          exact ⟨_, G4, ps4, e6, S4.fgt ws⟩
        · rcases e6 with ⟨v, A1, rfl⟩ | ⟨C, A1, rfl⟩ <;> (rw [e4] at e5; cases e5)
      · rcases hcase with ⟨A1, hor, hr⟩ | ⟨A1, e5, _⟩ | ⟨e5, e6⟩
        · have : A1 = A4 := by
            rcases hor with z | z
            · rw [e4] at z; cases z
            · rw [e4] at z; cases z; rfl
          subst this
          exact ⟨_, hr, G4, ps4, S4.fgt ws⟩
        · rw [e4] at e5; cases e5
        · rcases e6 with ⟨v, A1, rfl⟩ | ⟨C, A1, rfl⟩ <;> (rw [e4] at e5; cases e5)
end
end Py

set_option Elab.async false
set_option linter.all false
set_option maxRecDepth 100000
set_option maxHeartbeats 2000000
/-! PyN: lists changed in place, raise, try, what nobody names. -/
namespace Py
open PySem PySem.Spec PyProof.Rows L2
open Evl (Ex)
open Eng (dp_up dp_upAll dall_len dall_get dall_getV dall_app dall_set dp_int dp_str dp_bl dp_non dp_list dp_tup wE wT wA wS wB pe_w pt_w pa_w ps_w pss_w wE_of wT_of wA_of wS_of wB_of wE_mono wT_mono wA_mono wB_mono)
section
variable {X : Cx} {c : Ct} {E : CE} {Γ : Gm} {A A1 A2 A0 : AS} {e a b tg it : Expr} {es : List Expr} {st : Stmt} {sts rest : List Stmt} {o : Fl} {pos : Pos} {G G1 : Hp} {ps qs : List Addr} {σ : L2.St} {H H1 : Hp}
theorem lstAt_then {s : SV} {f : Nat → F} (h : ((lstAt s).then f) A = some o) : ∃ k ds, s = .own k ∧ A.μ[k]? = some (.lst ds) ∧ f k A = some o := by
  unfold M.then lstAt at h
  cases s with
  | own k =>
    dsimp only at h
    cases h1 : A.μ[k]? with
    | none => rw [h1] at h; cases h
    | some n =>
      rw [h1] at h
      cases n with
      | lst ds => exact ⟨k, ds, rfl, h1, h⟩
      | _ => cases h
  | _ => cases h
theorem toD_then {r : Nat} {s : SV} {f : PyData → F} (h : ((toD r s).then f) A = some o) : ∃ d A1, toD r s A = some (.ok d A1) ∧ f d A1 = some o := by
  rcases then_inv h with ⟨d, A1, h1, h2⟩ | ⟨C, A1, h1, rfl⟩
  · exact ⟨d, A1, h1, h2⟩
  · unfold toD at h1
    cases s with
    | own k =>
      dsimp only at h1
      split at h1
      · split at h1 <;> cases h1
      · cases h1
    | _ => cases h1
/-- a node of one's own, and what becomes of it -/
theorem own_at {k : Nat} {ds : List PyData} {v : V} (S : St X.K c A G ps σ H) (r : VOk X.K G ps v (.own k)) (hm : A.μ[k]? = some (.lst ds)) : ∃ p xs, v = .ref p ∧ H p = some (.lst xs) ∧ DpAll X.K G xs ds ∧ ∀ ys es, DpAll X.K G ys es → St X.K c ⟨A.ρ, A.μ.set k (.lst es)⟩ G ps σ (upd H p (.lst ys)) := by
  obtain ⟨p, hk, rfl⟩ := r
  obtain ⟨g, xs, hx, hd⟩ := S.hs.mu k p _ hk hm
  refine ⟨p, xs, rfl, hx, hd, fun ys es hy => ?_⟩
  exact S.on (Ex.refl _) (Ext.refl _) (S.hs.chg hk hm (fun z => nomatch z) ⟨g, ys, upd_same, hy⟩)
theorem ss_app {x : Str} {px apos cpos : Pos} {i : Nat} {t : Tm} (hr : c.own.length = Γ.r) (ga : Good X c Γ (.Name x px) (.var i)) (g : Good X c Γ e t) (hs : notStar e = true) (hline : (apos.endLine == cpos.line) = true) (h : exS Γ (.app (.var i) t) A = some o) :
    SS X c (.Expr (.Call (.Attribute (.Name x px) "append" apos) [e] [] cpos) pos) A o := fun G ps σ H S xk => by
  have h : ((ev Γ (.var i)).then fun o => (lstAt o).then fun k => (ev Γ t).then fun s => (toD Γ.r s).then fun x => fun A => match A.μ[k]? with
    | some (.lst ds) => if ds.length < 100000 then some (.nx ⟨A.ρ, A.μ.set k (.lst (ds ++ [x]))⟩) else none
    | _ => none) A = some o := h
  refine wS_of (ps_expr (pe_bm PySem.F.plainAttrs_list PySem.F.slot_list_append PySem.F.type_list_append mt_append pe_w (pa_cons pe_w pa_nil (star_each hs _)) rfl (by rw [star_one hs]; rfl) hline (star_each hs _) rfl) rfl) (then_ok ga h S xk fun sv A1 v H1 G1 qs h2 e1 x1 S1 r1 => ?_)
  obtain ⟨k, ds, rfl, hm, h3⟩ := lstAt_then h2
  obtain ⟨p, xs, rfl, hp, hd, _⟩ := own_at S1 r1 hm
  refine ⟨.inl ⟨rfl, xs, .inl (.inl hp)⟩, then_ok g h3 S1 xk fun sv2 A2 v2 H2 G2 rs h4 e2 x2 S2 r2 => ?_⟩
  obtain ⟨d, A3, h5, h6⟩ := toD_then h4
  rw [← hr] at h5
  obtain ⟨d', A3', e3, G3, ex3, S3, rd⟩ := toD_ok S2 r2 h5
  cases e3
  split at h6
  · rename_i ds3 hm3
    split at h6
    · rename_i hl
      cases h6
      obtain ⟨p3, xs3, e4, hp3, hd3, hch⟩ := own_at S3 ((r1.up e2 x2).up ex3 (Ext.refl _)) hm3
      cases e4
      exact ⟨p, xs3, v2, rfl, rfl, hp3, by rw [dall_len hd3]; exact Evl.sz_lt hl, _, G3, rs, rfl, hch _ _ (dall_app hd3 (.cons rd .nil))⟩
    · cases h6
  · cases h6
theorem ss_ext {x : Str} {px apos cpos : Pos} {i : Nat} {t : Tm} (ga : Good X c Γ (.Name x px) (.var i)) (g : Good X c Γ e t) (hs : notStar e = true) (hline : (apos.endLine == cpos.line) = true) (h : exS Γ (.ext (.var i) t) A = some o) :
    SS X c (.Expr (.Call (.Attribute (.Name x px) "extend" apos) [e] [] cpos) pos) A o := fun G ps σ H S xk => by
  have h : ((ev Γ (.var i)).then fun o => (lstAt o).then fun k => (ev Γ t).then fun s => (lstAt s).then fun j => fun A => match A.μ[k]?, A.μ[j]? with
    | some (.lst ds), some (.lst es) => if ds.length + es.length ≤ 1000000 then some (.nx ⟨A.ρ, A.μ.set k (.lst (ds ++ es))⟩) else none
    | _, _ => none) A = some o := h
  refine wS_of (ps_expr (pe_bm PySem.F.plainAttrs_list PySem.F.slot_list_extend PySem.F.type_list_extend mt_extend pe_w (pa_cons pe_w pa_nil (star_each hs _)) rfl (by rw [star_one hs]; rfl) hline (star_each hs _) rfl) rfl) (then_ok ga h S xk fun sv A1 v H1 G1 qs h2 e1 x1 S1 r1 => ?_)
  obtain ⟨k, ds, rfl, hm, h3⟩ := lstAt_then h2
  obtain ⟨p, xs, rfl, hp, hd, _⟩ := own_at S1 r1 hm
  refine ⟨.inl ⟨rfl, xs, .inl (.inl hp)⟩, then_ok g h3 S1 xk fun sv2 A2 v2 H2 G2 rs h4 e2 x2 S2 r2 => ?_⟩
  obtain ⟨j, es2, rfl, hm2, h6⟩ := lstAt_then h4
  split at h6
  · rename_i ds3 es3 hm3 hm4
    split at h6
    · rename_i hl
      cases h6
      obtain ⟨p3, xs3, e4, hp3, hd3, hch⟩ := own_at S2 (r1.up e2 x2) hm3
      cases e4
      obtain ⟨p4, xs4, rfl, hp4, hd4, _⟩ := own_at S2 r2 hm4
      exact ⟨p, p4, xs3, xs4, rfl, rfl, hp3, hp4, by rw [dall_len hd3, dall_len hd4]; exact sz_of hl, _, G2, rs, rfl, hch _ _ (dall_app hd3 hd4)⟩
    · cases h6
  · cases h6
/-- x[i] = e -/
theorem ss_asgI {x : Str} {px ipos : Pos} {i : Nat} {t u : Tm} (hr : c.own.length = Γ.r) (ga : Good X c Γ (.Name x px) (.var i)) (gb : Good X c Γ b u) (g : Good X c Γ e t) (hb : notSlice b = true) (h : exS Γ (.asgI (.var i) u t) A = some o) :
    SS X c (.Assign [.Subscript (.Name x px) b ipos] e pos) A o := fun G ps σ H S xk => by
  have h : ((ev Γ t).then fun s => (toD Γ.r s).then fun x => (ev Γ (.var i)).then fun o => (ev Γ u).then fun i => (view i).then fun d => match o, d with
    | .own k, .int j => fun A => match A.μ[k]? with
      | some (.lst ds) => match ixN ds.length j with
        | some n => some (.nx ⟨A.ρ, A.μ.set k (.lst (ds.set n x))⟩)
        | none => none
      | _ => none
    | _, _ => fun _ => none) A = some o := h
  refine wS_of (ps_asg pe_w (pg_sub pe_w pe_w set_list (by intro v; cases b <;> first | rfl | cases hb)) (by cases e <;> rfl) (by rfl) (by rfl)) (then_ok g h S xk fun sv A1 v H1 G1 qs h2 e1 x1 S1 r1 => ?_)
  obtain ⟨d, A2, h5, h6⟩ := toD_then h2
  rw [← hr] at h5
  obtain ⟨d', A2', e3, G2, ex2, S2, rd⟩ := toD_ok S1 r1 h5
  cases e3
  refine then_ok ga h6 S2 xk fun sv3 A3 v3 H3 G3 rs h7 e3 x3 S3 r3 => then_ok gb h7 S3 xk fun sv4 A4 v4 H4 G4 ts h8 e4 x4 S4 r4 => ?_
  rcases then_inv h8 with ⟨d5, A5, h9, h10⟩ | ⟨C, A5, h9, rfl⟩
  · obtain ⟨d6, h11, h12⟩ := view_inv h9
    cases h12
    split at h10
    · rename_i k j
      split at h10
      · rename_i ds hm
        split at h10
        · rename_i n hn
          cases h10
          obtain ⟨p, xs, rfl, hp, hd, hch⟩ := own_at S4 (r3.up e4 x4) hm
          exact ⟨p, xs, j, n, rfl, dp_int (r4.view S4.hs h11), hp, by rw [dall_len hd]; exact hn, _, G4, ts, rfl, hch _ _ (dall_set (dp_up (e3.trans e4) d rd) n hd)⟩
        · cases h10
      · cases h10
    · cases h10
  · obtain ⟨d6, h11, h12⟩ := view_inv h9; cases h12
/-- raise C("..") -/
theorem ss_raise {C : Str} {m : Str} {j : Nat} {p p2 cp : Pos} (Hyp : HyS X c E Γ) (hcalm : E.calm = true) (hC : E.xs.contains C = true) (hg : E.gl C = true) (hdb : (C == ("__debug__" : Str)) = false) (h : exS Γ (.raise C) A = some o) :
    SS X c (.Raise (some (.Call (.Name C p) [.Constant (.str m) j p2] [] cp)) none pos) A o := fun G ps σ H S xk => by
  cases h
  obtain ⟨W, tk, a, hm, hW⟩ := xk
  obtain ⟨a', B, newId, initId, bmB, F, q, gC, kC, r⟩ := Hyp.mkc C hC
  rw [hm] at gC; cases gC
  exact wS_of (ps_raise (Hyp.calm hcalm) tk (pmk_own F q hm kC r (Hyp.gl hg) hdb)) (hW G ps σ H S)
/-! ### name = [..] on one line -/
theorem alloc_no {fr : Bool} {ds : List PyData} {C : Str} (h : alloc fr ds A = some (.ex C A1)) : False := by
  unfold alloc at h
  split at h
  · split at h <;> cases h
  · cases h
theorem ss_setLc {elt : Expr} {ifs : List Expr} {scope : Scope} {lpos p : Pos} {x : Str} {f f' : Expr → Option Tm} {i : Nat} {it' : Itr} {g : Tg} {ts : Tms} {t : Tm} {fr : Bool} {own : List (Str × Nat)} (Hyp : Hy X c E Γ) (hf : ∀ e t, f e = some t → Good X c Γ e t)
    (hf' : ∀ (X' : Cx) (c' : Ct), Hy X' c' { E with sc := relS scope E.sc, blk := some scope } Γ → ∀ e t, f' e = some t → Good X' c' Γ e t)
    (hb : blkC E.N E.sc scope own = true) (hcalm : E.calm = true) (h1 : compIt f E tg it = some it') (h2 : compG { E with sc := relS scope E.sc, blk := some scope } tg = some g) (h3 : compL f' ifs = some ts) (h4 : f' elt = some t)
    (h5 : g.slots.all (fun i => decide (i ∈ own.map (·.2))) = true) (hs : slotOf E (.Name x p) = some i) (hl : E.sc.names.lookup x = some .local)
    (hsw : swapsWith (.ListComp elt [⟨tg, it, ifs, 0⟩] scope lpos) (some (.Name x p)) pos.line X.env = pure true) (h : exS Γ (.asg i (.com fr t g it' ts (own.map (·.2)))) A = some o) :
    SS X c (.Assign [.Name x p] (.ListComp elt [⟨tg, it, ifs, 0⟩] scope lpos) pos) A o := fun G ps σ H S xk => by
  obtain ⟨y, p', e', hN, hlc, hfn⟩ := slotOf_ok Hyp hs
  cases e'
  have h : ((ev Γ (.com fr t g it' ts (own.map (·.2)))).then fun s => putV i s) A = some o := h
  have inv : ∀ {oo}, ev Γ (.com fr t g it' ts (own.map (·.2))) A = some oo → ∃ ds A1 acc A2, evI Γ it' A = some (.ok ds A1) ∧ ds.length ≤ 1000000 ∧ comGo g (own.map (·.2)) (evTs Γ ts) (ev Γ t) Γ.r ds [] ⟨wipeV A1.ρ (own.map (·.2)), A1.μ⟩ = some (.ok acc A2) ∧ alloc fr acc A2 = some oo := fun {oo} q => by
    have q : ((evI Γ it').nox.bind fun ds => fun A => if 1000000 < ds.length then none else match comGo g (own.map (·.2)) (evTs Γ ts) (ev Γ t) Γ.r ds [] ⟨wipeV A.ρ (own.map (·.2)), A.μ⟩ with
      | some (.ok acc A1) => alloc fr acc A1
      | _ => none) A = some oo := q
    obtain ⟨ds, A1, q1, q⟩ := nbind q
    split at q
    · cases q
    · split at q
      · exact ⟨ds, A1, _, _, q1, by omega, ‹_›, q⟩
      · cases q
  rcases then_inv h with ⟨sv, A1, h6, h7⟩ | ⟨C, A1, h6, rfl⟩
  · obtain ⟨ds, A2, acc, A3, q1, hz, hrun, ho⟩ := inv h6
    obtain ⟨k1, k2⟩ := compIt_ok hf Hyp h1
    cases (put_inv h7)
    rw [← Hyp.r] at hrun
    refine wS_of (ps_setLc (g := gTg X.K g) (Hyp.calm hcalm) (by rw [Hyp.hN]; exact Hyp.nd) hN (by rw [Hyp.sc]; exact hl) hsw Eng.pi_w (by rw [Hyp.hN, Hyp.sc]; exact blkOk_by hb) (fun s H0 C cl fp => compG_ok (c := c) (Γ := Γ) (Hyp.blk' hcalm rfl rfl rfl) h2) (fun _ _ _ _ _ => Eng.bT_ok) (fun _ _ _ _ _ => Eng.bE_ok) (k2 _)) ?_
    refine com_ok (k1 _ _ q1) hz (fun i hi => ?_) (fun c' A o e1 e2 e3 r s H0 C cl fp => ?_) (fun c' A o e1 e2 e3 r s H0 C cl fp => ?_) hrun ho S (fun v H' q => ?_)
    · exact of_decide_eq_true (List.all_eq_true.mp h5 i hi)
    · exact tests_ok (hf' _ _ (Hyp.blk' hcalm e1 e2 e3)) h3 _ _ r
    · exact (hf' _ _ (Hyp.blk' hcalm e1 e2 e3) _ _ h4).1 _ _ r
    · obtain ⟨sv', A', e0, G', qs', ex', xt', S', r'⟩ := q
      cases e0
      exact ⟨_, G', qs', rfl, S'.put r'⟩
  · obtain ⟨ds, A2, acc, A3, q1, hz, hrun, ho⟩ := inv h6
    exact (alloc_no ho).elim
end
end Py

set_option Elab.async false
set_option linter.all false
set_option maxRecDepth 100000
set_option maxHeartbeats 2000000
/-! PyO: try .. except; what nobody names goes. -/
namespace Py
open PySem PySem.Spec PyProof.Rows L2
open Evl (Ex)
open Eng (dp_up dp_upAll dall_len dall_get dall_getV dall_app dall_set dp_int dp_str dp_bl dp_non dp_list dp_tup wE wT wA wS wB pe_w pt_w pa_w ps_w pss_w wE_of wT_of wA_of wS_of wB_of wE_mono wT_mono wA_mono wB_mono)
section
variable {X : Cx} {c : Ct} {E : CE} {Γ : Gm} {A A1 A2 A0 : AS} {e a b tg it : Expr} {es : List Expr} {st : Stmt} {sts rest : List Stmt} {o : Fl} {pos : Pos} {G G1 : Hp} {ps qs : List Addr} {σ : L2.St} {H H1 : Hp} {K : PySem.W.Frag} {μ : List ON}
def Ct.wea (c : Ct) (x : Option (Str × Addr)) : Ct := ⟨c.H0, c.B0, c.own, c.cm, x⟩
theorem HS.wea {x : Option (Str × Addr)} (h : HS K c μ G ps H) : HS K (c.wea x) μ G ps H := ⟨h.ex, h.fr, h.keep, h.live, h.sub, h.mlen, h.nd, h.pre, h.new, h.mu⟩
theorem HS.unwea {x : Option (Str × Addr)} (h : HS K (c.wea x) μ G ps H) : HS K c μ G ps H := ⟨h.ex, h.fr, h.keep, h.live, h.sub, h.mlen, h.nd, h.pre, h.new, h.mu⟩
theorem noX_get : ∀ {ρ : List SV} {i : Nat} {sv : SV}, (noX ρ)[i]? = some sv → (ρ[i]? = some sv ∨ sv = .any) ∧ ∀ C, sv ≠ .exc C
  | [], i, sv, h => by simp [noX] at h
  | s :: ρ, 0, sv, h => by
    cases s with
    | exc C =>
      have e : SV.any = sv := Option.some.inj h
      subst e; exact ⟨.inr rfl, fun _ z => nomatch z⟩
    | dat d => have e : SV.dat d = sv := Option.some.inj h; subst e; exact ⟨.inl rfl, fun _ z => nomatch z⟩
    | own d => have e : SV.own d = sv := Option.some.inj h; subst e; exact ⟨.inl rfl, fun _ z => nomatch z⟩
    | any => have e : SV.any = sv := Option.some.inj h; subst e; exact ⟨.inl rfl, fun _ z => nomatch z⟩
  | s :: ρ, i + 1, sv, h => by
    have h' : (noX ρ)[i]? = some sv := by cases s <;> exact h
    exact noX_get (ρ := ρ) (i := i) h'
theorem noX_len : ∀ ρ : List SV, (noX ρ).length = ρ.length
  | [] => rfl
  | s :: ρ => by cases s <;> exact congrArg (· + 1) (noX_len ρ)
/-- the exception in its slot -/
theorem St.putX {j : Nat} {D : Str} {ad : Addr} (h : St K c A G ps σ H) (hn : c.ea = none) : St K (c.wea (some (D, ad))) ⟨A.ρ.set j (.exc D), A.μ⟩ G ps (σ.set j (some (.ref ad))) H where
  hs := h.hs.wea
  len := by rw [List.length_set, List.length_set]; exact h.len
  sl := fun i s e => by
    have e' : (A.ρ.set j (.exc D))[i]? = some s := e
    by_cases z : j = i
    · subst z
      have hl : j < A.ρ.length := by
        rw [List.getElem?_set_self'] at e'
        cases q : A.ρ[j]? with
        | none => rw [q] at e'; cases e'
        | some y => exact (List.getElem?_eq_some_iff.mp q).1
      rw [List.getElem?_set_self hl] at e'
      have e2 : SV.exc D = s := Option.some.inj e'
      subst e2
      exact ⟨ad, List.getElem?_set_self (by rw [h.len]; exact hl), rfl⟩
    · rw [List.getElem?_set_ne z] at e'
      rw [List.getElem?_set_ne z]
      have old := h.sl i s e'
      cases s with
      | exc C => obtain ⟨a, _, z2⟩ := old; rw [hn] at z2; cases z2
      | dat d => exact old
      | own d => exact old
      | any => exact True.intro
theorem St.endX {j : Nat} {x : Option (Str × Addr)} (h : St K (c.wea x) A G ps σ H) : St K c (endX j A) G ps σ H ∧ ∀ y, St K c (endX j A) G ps (σ.set j y) H := by
  have key : ∀ σ', σ'.length = σ.length → (∀ i, i ≠ j → σ'[i]? = σ[i]?) → St K c (Py.endX j A) G ps σ' H := fun σ' hl hs => ⟨h.hs.unwea, by
    show σ'.length = ((noX A.ρ).set j .any).length
    rw [List.length_set, noX_len, hl]; exact h.len, fun i sv e => by
    have e' : ((noX A.ρ).set j .any)[i]? = some sv := e
    by_cases z : j = i
    · subst z
      rw [List.getElem?_set_self'] at e'
      cases q : (noX A.ρ)[j]? with
      | none => rw [q] at e'; cases e'
      | some y =>
        rw [q] at e'
        have e2 : SV.any = sv := Option.some.inj e'
        subst e2; exact True.intro
    · rw [List.getElem?_set_ne z] at e'
      obtain ⟨k1, k2⟩ := noX_get e'
      rw [hs i (fun w => z w.symm)]
      rcases k1 with k1 | rfl
      · have old := h.sl i sv k1
        cases sv with
        | exc C => exact absurd rfl (k2 C)
        | dat d => exact old
        | own d => exact old
        | any => exact True.intro
      · exact True.intro⟩
  exact ⟨key σ rfl fun _ _ => rfl, fun y => key _ (List.length_set ..) fun i hi => List.getElem?_set_ne fun w => hi w.symm⟩
theorem HyS.tr (Hyp : HyS X c E Γ) (hcalm : E.calm = true) {pn : List (Addr × Obj)} {xe : Value → Shared → Prop} (hp : PassesOwn (model X.prog X.w) X.A X.env xe) : HyS (X.tr pn xe) c E Γ where
  hN := Hyp.hN
  nd := Hyp.nd
  sc := Hyp.sc
  fn := Hyp.fn
  calm := Hyp.calm
  cea := Hyp.cea
  isx := fun C D ad b z => by rw [Hyp.cea hcalm] at z; cases z
  hu := Hyp.hu
  bl := Hyp.bl
  cs := Hyp.cs
  fns := Hyp.fns
  r := Hyp.r
  hp := hp
  stk := Hyp.stk
  frm := Hyp.frm
  mkc := Hyp.mkc
  exc := Hyp.exc
def CE.suite (E : CE) : CE := { E with calm := false, fns := [] }
theorem HyS.suite (Hyp : HyS X c E Γ) {ad aD : Addr} {oe : Obj} {pn : List (Addr × Obj)} {D : Str} (hD : X.mg D = some (.ref aD)) (hz : Zc (.ref aD) none oe) (hf : ∃ vs, oe.data = .fields vs) : HyS (X.suite ad ((ad, oe) :: pn)) (c.wea (some (D, ad))) E.suite Γ where
  hN := Hyp.hN
  nd := Hyp.nd
  sc := Hyp.sc
  fn := Hyp.fn
  calm := fun z => by cases z
  cea := fun z => by cases z
  isx := fun C D' ad' b z hs => by
    have e : some (D, ad) = some (D', ad') := z
    cases e
    obtain ⟨a', cv, h1, h2, h3, h4, h5⟩ := Hyp.exc D C b hs
    rw [hD] at h1; cases h1
    exact ⟨cv, h2, fun pins s σ H xs us Q I r ⟨e, q⟩ => call_isE h3 hz hf pins s σ H xs us Q I r ⟨.ref cv, .ref cv, b, e, fun u r => r, h5, q⟩⟩
  hu := Hyp.hu
  bl := Hyp.bl
  cs := Hyp.cs
  fns := fun x m h => by cases h
  r := Hyp.r
  hp := PassesOwn.never
  stk := Hyp.stk
  frm := Hyp.frm
  mkc := Hyp.mkc
  exc := Hyp.exc
theorem HyS.suite1 (Hyp : HyS X c E Γ) (hn : c.ea = none) {ad : Addr} {oe : Obj} {pn : List (Addr × Obj)} : HyS (X.suite ad ((ad, oe) :: pn)) c E.suite Γ where
  hN := Hyp.hN
  nd := Hyp.nd
  sc := Hyp.sc
  fn := Hyp.fn
  calm := fun z => by cases z
  cea := fun z => by cases z
  isx := fun C D' ad' b z hs => by rw [hn] at z; cases z
  hu := Hyp.hu
  bl := Hyp.bl
  cs := Hyp.cs
  fns := fun x m h => by cases h
  r := Hyp.r
  hp := PassesOwn.never
  stk := Hyp.stk
  frm := Hyp.frm
  mkc := Hyp.mkc
  exc := Hyp.exc
/-- what leaves the try -/
def Wex (X : Cx) (c : Ct) (o : Fl) : WX := fun cls d σ H => ∃ D A1 aD, o = .ex D A1 ∧ X.mg D = some (.ref aD) ∧ cls = .ref aD ∧ d = none ∧ ∃ G ps, St X.K c A1 G ps σ H
theorem wex_takes (x : XOkF X c o) : Takes X (Wex X c o) := by
  cases o with
  | ex C A1 =>
    obtain ⟨W, tk, a, hm, hW⟩ := x
    refine tk.imp fun cls d σ H ⟨D, A2, aD, e1, e2, e3, e4, G, ps, S⟩ => ?_
    cases e1
    rw [hm] at e2; cases e2
    rw [e3, e4]
    exact hW G ps σ H S
  | _ => exact fun u s' ⟨_, _, _, _, _, _, _, _, _, _, _, _, _, _, _, _, D, A1, aD, z, _⟩ => by cases z
theorem ss_try1 {body suite : List Sm} {C : Str} {np pos' : Pos} {b₀ : Stmt} {ss : List Stmt} (Hyp : HyS X c E Γ) (hcalm : E.calm = true) (hC : E.xs.contains C = true) (hg : E.gl C = true) (hdb : (C == ("__debug__" : Str)) = false)
    (hB : ∀ (X' : Cx) (A : AS) (o : Fl), HyS X' c E Γ → exB Γ body A = some o → SB X' c sts A o)
    (hS : ∀ (X' : Cx) (c' : Ct) (A : AS) (o : Fl), HyS X' c' E.suite Γ → exB Γ suite A = some o → SB X' c' (b₀ :: ss) A o)
    (h : exS Γ (.try_ body C none suite) A = some o) : SS X c (.Try sts [.ExceptHandler (some (.Name C np)) none (b₀ :: ss) pos'] [] [] pos) A o := fun G ps σ H S xk => by
  obtain ⟨aC, B, newId, initId, bmB, F, q, gC, kC, r⟩ := Hyp.mkc C hC
  refine wS_of (ps_try_only (c := .ref aC) (Wout := Wex X c o) (tb := fun W D σ H => ∀ pn xe, Takes (X.tr pn xe) W → PassesOwn (model X.prog X.w) X.A X.env xe → wB (X.tr pn xe) sts D σ H)
    (ts := fun a cls d D σ H => ∀ oe pn, Zc cls d oe → (∃ vs, oe.data = .fields vs) → wB (X.suite a ((a, oe) :: pn)) (b₀ :: ss) D σ H) Hyp.stk Hyp.frm ⟨Hyp.toHy.gl hg, hdb, .inl gC⟩ (wex_takes xk) (fun W pn xe tk hp => ⟨fun pins s σ H D I h => h pn xe tk hp pins s I⟩) (fun a oe cls d pn hz hf => ⟨fun pins s σ H D I h => h oe pn hz hf pins s I⟩)) ?_
  intro pn xe tk hp
  have H2 := Hyp.tr hcalm (pn := pn) hp
  have h : (match exB Γ body A with
    | some (.ex D A1) => match Γ.sub D C with
      | none => none
      | some false => some (.ex D A1)
      | some true => match exB Γ suite A1 with
          | some (.ex _ _) => none
          | o => o
    | o => o) = some o := h
  cases hb : exB Γ body A with
  | none => rw [hb] at h; cases h
  | some ob =>
    rw [hb] at h
    have xb : XOkF (X.tr pn xe) c ob := by
      cases ob with
      | ex D A1 =>
        dsimp only at h
        cases hs : Γ.sub D C with
        | none => rw [hs] at h; cases h
        | some b =>
          rw [hs] at h
          obtain ⟨aD, cv, m1, m2, k3, k4, k5⟩ := Hyp.exc D C b hs
          rw [gC] at m2; cases m2
          refine ⟨_, tk, aD, m1, fun G ps σ H S => ⟨b, k4, fun eb a ha oe pn hz hf => ?_, fun eb => ?_⟩⟩
          · subst eb
            dsimp only at h
            have hs2 : exB Γ suite A1 = some o ∧ ∀ C A, o ≠ .ex C A := by
              cases h3 : exB Γ suite A1 with
              | none => rw [h3] at h; cases h
              | some o3 =>
                rw [h3] at h
                cases o3 with
                | ex _ _ => cases h
                | _ => cases h; exact ⟨rfl, fun _ _ z => nomatch z⟩
            have xo : XOkF (X.suite a ((a, oe) :: pn)) c o := by
              cases o with
              | ex C2 A2 => exact absurd rfl (hs2.2 C2 A2)
              | _ => exact True.intro
            exact hS _ c A1 o (Hyp.suite1 (Hyp.cea hcalm)) hs2.1 G ps σ H S xo
          · subst eb
            cases h
            exact ⟨D, A1, aD, rfl, m1, rfl, rfl, G, ps, S⟩
      | _ => exact True.intro
    refine wB_mono (hB _ _ _ H2 hb G ps σ H S xb) (fun σ4 H4 ⟨A4, G4, ps4, e4, S4⟩ => ?_) (fun v4 H4 ⟨sv, A4, G4, ps4, σ4, e4, S4, r4⟩ => ?_) (fun σ4 H4 ⟨A4, G4, ps4, e4, S4⟩ => ?_) (fun σ4 H4 ⟨A4, G4, ps4, e4, S4⟩ => ?_) <;> subst e4 <;> cases h
    · exact ⟨A4, G4, ps4, rfl, S4⟩
    · exact ⟨sv, A4, G4, ps4, σ4, rfl, S4, r4⟩
    · exact ⟨A4, G4, ps4, rfl, S4⟩
    · exact ⟨A4, G4, ps4, rfl, S4⟩
theorem ss_try2 {body suite : List Sm} {C n : Str} {j : Nat} {np pos' : Pos} {b₀ : Stmt} {ss : List Stmt} (Hyp : HyS X c E Γ) (hcalm : E.calm = true) (hC : E.xs.contains C = true) (hg : E.gl C = true) (hdb : (C == ("__debug__" : Str)) = false) (hi : idxN E.N n = some j) (hln : E.sc.names.lookup n = some .local)
    (hB : ∀ (X' : Cx) (A : AS) (o : Fl), HyS X' c E Γ → exB Γ body A = some o → SB X' c sts A o)
    (hS : ∀ (X' : Cx) (c' : Ct) (A : AS) (o : Fl), HyS X' c' E.suite Γ → exB Γ suite A = some o → SB X' c' (b₀ :: ss) A o)
    (h : exS Γ (.try_ body C (some j) suite) A = some o) : SS X c (.Try sts [.ExceptHandler (some (.Name C np)) (some n) (b₀ :: ss) pos'] [] [] pos) A o := fun G ps σ H S xk => by
  obtain ⟨aC, B, newId, initId, bmB, F, q, gC, kC, r⟩ := Hyp.mkc C hC
  refine wS_of (ps_try_as (c := .ref aC) (i := j) (Wout := Wex X c o) (tb := fun W D σ H => ∀ pn xe, Takes (X.tr pn xe) W → PassesOwn (model X.prog X.w) X.A X.env xe → wB (X.tr pn xe) sts D σ H)
    (ts := fun a cls d D σ H => ∀ oe pn, Zc cls d oe → (∃ vs, oe.data = .fields vs) → wB (X.suite a ((a, oe) :: pn)) (b₀ :: ss) D σ H) Hyp.stk Hyp.frm (by rw [Hyp.hN]; exact Hyp.nd) (by rw [Hyp.hN]; exact idxN_ok hi) (by show X.env.scope.names.lookup n = _; rw [Hyp.sc]; exact hln) ⟨Hyp.toHy.gl hg, hdb, .inl gC⟩ (wex_takes xk) (fun W pn xe tk hp => ⟨fun pins s σ H D I h => h pn xe tk hp pins s I⟩) (fun a oe cls d pn hz hf => ⟨fun pins s σ H D I h => h oe pn hz hf pins s I⟩)) ?_
  intro pn xe tk hp
  have H2 := Hyp.tr hcalm (pn := pn) hp
  have h : (match exB Γ body A with
    | some (.ex D A1) => match Γ.sub D C with
      | none => none
      | some false => some (.ex D A1)
      | some true => match exB Γ suite ⟨A1.ρ.set j (.exc D), A1.μ⟩ with
          | some (.nx A2) => some (.nx (endX j A2))
          | some (.rt v A2) => some (.rt v (endX j A2))
          | some (.bk A2) => some (.bk (endX j A2))
          | some (.ct A2) => some (.ct (endX j A2))
          | _ => none
    | o => o) = some o := h
  cases hb : exB Γ body A with
  | none => rw [hb] at h; cases h
  | some ob =>
    rw [hb] at h
    have xb : XOkF (X.tr pn xe) c ob := by
      cases ob with
      | ex D A1 =>
        dsimp only at h
        cases hs : Γ.sub D C with
        | none => rw [hs] at h; cases h
        | some b =>
          rw [hs] at h
          obtain ⟨aD, cv, m1, m2, k3, k4, k5⟩ := Hyp.exc D C b hs
          rw [gC] at m2; cases m2
          refine ⟨_, tk, aD, m1, fun G ps σ H S => ⟨b, k4, fun eb a ha oe pn hz hf => ?_, fun eb => ?_⟩⟩
          · subst eb
            dsimp only at h
            cases h3 : exB Γ suite ⟨A1.ρ.set j (.exc D), A1.μ⟩ with
            | none => rw [h3] at h; cases h
            | some o3 =>
              rw [h3] at h
              have x3 : XOkF (X.suite a ((a, oe) :: pn)) (c.wea (some (D, a))) o3 := by
                cases o3 with
                | ex C2 A2 => cases h
                | _ => exact True.intro
              refine wB_mono (hS _ _ _ o3 (Hyp.suite (ad := a) (pn := pn) m1 hz hf) h3 G ps _ H (S.putX (Hyp.cea hcalm)) x3) (fun σ4 H4 ⟨A4, G4, ps4, e4, S4⟩ => ?_) (fun v4 H4 ⟨sv, A4, G4, ps4, σ4, e4, S4, r4⟩ => ?_) (fun σ4 H4 ⟨A4, G4, ps4, e4, S4⟩ => ?_) (fun σ4 H4 ⟨A4, G4, ps4, e4, S4⟩ => ?_) <;> subst e4 <;> cases h
              · exact ⟨_, G4, ps4, rfl, S4.endX.2 _⟩
              · exact ⟨sv, _, G4, ps4, σ4, rfl, S4.endX.1, r4⟩
              · exact ⟨_, G4, ps4, rfl, S4.endX.2 _⟩
              · exact ⟨_, G4, ps4, rfl, S4.endX.2 _⟩
          · subst eb
            cases h
            exact ⟨D, A1, aD, rfl, m1, rfl, rfl, G, ps, S⟩
      | _ => exact True.intro
    refine wB_mono (hB _ _ _ H2 hb G ps σ H S xb) (fun σ4 H4 ⟨A4, G4, ps4, e4, S4⟩ => ?_) (fun v4 H4 ⟨sv, A4, G4, ps4, σ4, e4, S4, r4⟩ => ?_) (fun σ4 H4 ⟨A4, G4, ps4, e4, S4⟩ => ?_) (fun σ4 H4 ⟨A4, G4, ps4, e4, S4⟩ => ?_) <;> subst e4 <;> cases h
    · exact ⟨A4, G4, ps4, rfl, S4⟩
    · exact ⟨sv, A4, G4, ps4, σ4, rfl, S4, r4⟩
    · exact ⟨A4, G4, ps4, rfl, S4⟩
    · exact ⟨A4, G4, ps4, rfl, S4⟩
/-! ### what nobody names -/
theorem gcKs_has {r : Nat} : ∀ {ρ : List SV} {acc : List Nat}, (∀ k ∈ acc, k ∈ gcKs r acc ρ) ∧ ∀ k, SV.own k ∈ ρ → k < r ∨ k ∈ gcKs r acc ρ
  | [], acc => ⟨fun k h => h, fun k h => by cases h⟩
  | s :: ρ, acc => by
    cases s with
    | own j =>
      unfold gcKs
      by_cases hj : j < r ∨ j ∈ acc
      · rw [if_pos hj]
        obtain ⟨k1, k2⟩ := gcKs_has (ρ := ρ) (acc := acc)
        refine ⟨k1, fun k hk => ?_⟩
        rcases List.mem_cons.mp hk with e | hk
        · cases e; exact hj.imp id (k1 _)
        · exact k2 k hk
      · rw [if_neg hj]
        obtain ⟨k1, k2⟩ := gcKs_has (ρ := ρ) (acc := acc ++ [j])
        refine ⟨fun k hk => k1 k (List.mem_append_left _ hk), fun k hk => ?_⟩
        rcases List.mem_cons.mp hk with e | hk
        · cases e; exact .inr (k1 _ (List.mem_append_right _ (List.mem_singleton.mpr rfl)))
        · exact k2 k hk
    | dat d =>
      obtain ⟨k1, k2⟩ := gcKs_has (r := r) (ρ := ρ) (acc := acc)
      exact ⟨k1, fun k hk => k2 k ((List.mem_cons.mp hk).resolve_left fun z => by cases z)⟩
    | any =>
      obtain ⟨k1, k2⟩ := gcKs_has (r := r) (ρ := ρ) (acc := acc)
      exact ⟨k1, fun k hk => k2 k ((List.mem_cons.mp hk).resolve_left fun z => by cases z)⟩
    | exc d =>
      obtain ⟨k1, k2⟩ := gcKs_has (r := r) (ρ := ρ) (acc := acc)
      exact ⟨k1, fun k hk => k2 k ((List.mem_cons.mp hk).resolve_left fun z => by cases z)⟩
theorem gcKs_nd {r : Nat} : ∀ {ρ : List SV} {acc : List Nat}, acc.Nodup → (∀ k ∈ acc, r ≤ k) → (gcKs r acc ρ).Nodup ∧ ∀ k ∈ gcKs r acc ρ, r ≤ k
  | [], acc, h, h2 => ⟨h, h2⟩
  | s :: ρ, acc, h, h2 => by
    cases s with
    | own j =>
      unfold gcKs
      by_cases hj : j < r ∨ j ∈ acc
      · rw [if_pos hj]; exact gcKs_nd h h2
      · rw [if_neg hj]
        rw [not_or] at hj
        refine gcKs_nd (List.nodup_append.mpr ⟨h, by simp, fun a ha b hb => ?_⟩) fun k hk => ?_
        · rw [List.mem_singleton.mp hb]; exact fun z => hj.2 (z ▸ ha)
        · rcases List.mem_append.mp hk with hk | hk
          · exact h2 k hk
          · rw [List.mem_singleton.mp hk]; omega
    | dat d => exact gcKs_nd (ρ := ρ) h h2
    | any => exact gcKs_nd (ρ := ρ) h h2
    | exc d => exact gcKs_nd (ρ := ρ) h h2
theorem St.gc (S : St K c A G ps σ H) : ∃ qs, St K c (gcA c.own.length A) G qs σ H := by
  unfold gcA
  split
  · rename_i hall
    rw [List.all_eq_true] at hall
    obtain ⟨h1, h2⟩ := gcKs_nd (r := c.own.length) (ρ := A.ρ) (acc := []) List.nodup_nil (fun k hk => by cases hk)
    obtain ⟨_, h3⟩ := gcKs_has (r := c.own.length) (ρ := A.ρ) (acc := [])
    generalize gcKs c.own.length [] A.ρ = ks at hall h1 h2 h3
    obtain ⟨t, hpre⟩ := S.hs.pre
    -- the places
    have lenA : ∀ k ∈ List.range c.own.length ++ ks, k < ps.length := fun k hk => by
      have z := hall k hk
      rw [S.hs.mlen]
      cases q : A.μ[k]? with
      | none => rw [q] at z; cases z
      | some n => exact (List.getElem?_eq_some_iff.mp q).1
    let at_ : Nat → Addr := fun k => match ps[k]? with
      | some p => p
      | none => default
    have atE : ∀ k ∈ List.range c.own.length ++ ks, ps[k]? = some (at_ k) := fun k hk => by
      have z := lenA k hk
      show ps[k]? = some (match ps[k]? with
        | some p => p
        | none => default)
      rw [List.getElem?_eq_getElem z]
    have allnd : (List.range c.own.length ++ ks).Nodup := List.nodup_append.mpr ⟨List.nodup_range, h1, fun a ha b hb => by
      have q1 := List.mem_range.mp ha
      have q2 := h2 b hb
      omega⟩
    refine ⟨(List.range c.own.length ++ ks).map at_, ⟨S.hs.ex, S.hs.fr, S.hs.keep, S.hs.live, S.hs.sub, by rw [List.length_map, List.length_map], ?_, ?_, fun p hp => ?_, fun i p n hi hn => ?_⟩, by rw [List.length_map]; exact S.len, fun i sv e => ?_⟩
    · refine (List.pairwise_map.mpr ?_)
      refine List.Pairwise.imp_of_mem (fun {a b} ha hb hab z => hab ?_) allnd
      have za := atE a ha
      rw [z] at za
      exact nodup_idx S.hs.nd za (atE b hb)
    · refine ⟨ks.map at_, ?_⟩
      rw [List.map_append]
      congr 1
      refine List.ext_getElem (by simp) fun i hi hi2 => ?_
      rw [List.getElem_map, List.getElem_range]
      have hm : i ∈ List.range c.own.length ++ ks := List.mem_append_left _ (List.mem_range.mpr hi2)
      have z := atE i hm
      rw [hpre, List.getElem?_append_left hi2, List.getElem?_eq_getElem hi2] at z
      exact (Option.some.inj z).symm
    · obtain ⟨k, hk, rfl⟩ := List.mem_map.mp hp
      exact S.hs.new _ (List.mem_of_getElem? (atE k hk))
    · rw [List.getElem?_map] at hi hn
      cases q : (List.range c.own.length ++ ks)[i]? with
      | none => rw [q] at hi; cases hi
      | some k =>
        rw [q] at hi hn
        have hi' : at_ k = p := Option.some.inj hi
        have hn' : pickN A.μ k = n := Option.some.inj hn
        have hk := List.mem_of_getElem? q
        have z := hall k hk
        cases q2 : A.μ[k]? with
        | none => rw [q2] at z; cases z
        | some m =>
          rw [q2] at z
          have e2 : m = n := by
            unfold pickN at hn'
            rw [q2] at hn'; exact hn'
          subst e2
          have old := S.hs.mu k p m (by rw [← hi']; exact atE k hk) q2
          cases m with
          | gone => exact True.intro
          | lst ds => exact old
          | _ => cases z
    · rw [List.getElem?_map] at e
      cases q : A.ρ[i]? with
      | none => rw [q] at e; cases e
      | some s0 =>
        rw [q] at e
        have e2 : gcV c.own.length ks s0 = sv := Option.some.inj e
        subst e2
        have old := S.sl i s0 q
        cases s0 with
        | dat d => exact old
        | any => exact old
        | exc C => exact old
        | own k =>
          obtain ⟨v, hv, p, hp, rfl⟩ := old
          refine ⟨_, hv, p, ?_, rfl⟩
          show ((List.range c.own.length ++ ks).map at_)[if k < c.own.length then k else c.own.length + ks.idxOf k]? = some p
          have hmem : k ∈ List.range c.own.length ++ ks := by
            rcases h3 k (List.mem_of_getElem? q) with z | z
            · exact List.mem_append_left _ (List.mem_range.mpr z)
            · exact List.mem_append_right _ z
          have ek : at_ k = p := by
            have z := atE k hmem
            rw [hp] at z; exact (Option.some.inj z).symm
          rw [List.getElem?_map]
          by_cases hk : k < c.own.length
          · rw [if_pos hk, List.getElem?_append_left (by rw [List.length_range]; exact hk), List.getElem?_range hk]
            exact congrArg some ek
          · have hks : k ∈ ks := (List.mem_append.mp hmem).resolve_left fun z => hk (List.mem_range.mp z)
            rw [if_neg hk, List.getElem?_append_right (by rw [List.length_range]; omega), List.length_range, Nat.add_sub_cancel_left, List.getElem?_eq_getElem (List.idxOf_lt_length_iff.mpr hks), List.getElem_idxOf]
            exact congrArg some ek
  · exact ⟨ps, S⟩
theorem exB_app {u v : List Sm} (h : exB Γ (u ++ v) A = some o) : (∃ A1, exB Γ u A = some (.nx A1) ∧ exB Γ v A1 = some o) ∨ (exB Γ u A = some o ∧ ∀ A1, o ≠ .nx A1) := by
  induction u generalizing A with
  | nil => exact .inl ⟨A, rfl, h⟩
  | cons s u ih =>
    have h : F.seq (exS Γ s) (exB Γ (u ++ v)) A = some o := h
    show (∃ A1, F.seq (exS Γ s) (exB Γ u) A = some (.nx A1) ∧ _) ∨ (F.seq (exS Γ s) (exB Γ u) A = some o ∧ _)
    rcases seq_inv h with ⟨A1, h1, h2⟩ | ⟨h1, h2⟩
    · rcases ih h2 with ⟨A2, h3, h4⟩ | ⟨h3, h4⟩
      · exact .inl ⟨A2, by unfold F.seq; rw [h1]; exact h3, h4⟩
      · exact .inr ⟨by unfold F.seq; rw [h1]; exact h3, h4⟩
    · refine .inr ⟨?_, h2⟩
      unfold F.seq
      rw [h1]
      cases o with
      | nx A1 => exact absurd rfl (h2 A1)
      | _ => rfl
/-- a block and the sweep behind it -/
theorem sb_gc {u : List Sm} (hr : c.own.length = Γ.r) (hB : ∀ A o, exB Γ u A = some o → SB X c sts A o) (h : exB Γ (u ++ [.gc]) A = some o) : SB X c sts A o := by
  rcases exB_app h with ⟨A1, h1, h2⟩ | ⟨h1, h2⟩
  · have e : o = .nx (gcA Γ.r A1) := (Option.some.inj h2).symm
    subst e
    intro G ps σ H S _
    refine wB_mono (hB _ _ h1 G ps σ H S True.intro) (fun σ4 H4 ⟨A4, G4, ps4, e4, S4⟩ => ?_) (fun v4 H4 ⟨sv, A4, G4, ps4, σ4, e4, S4, r4⟩ => ?_) (fun σ4 H4 ⟨A4, G4, ps4, e4, S4⟩ => ?_) (fun σ4 H4 ⟨A4, G4, ps4, e4, S4⟩ => ?_) <;> cases e4
    obtain ⟨qs, S5⟩ := S4.gc
    rw [hr] at S5
    exact ⟨_, G4, qs, rfl, S5⟩
  · exact hB _ _ h1
end
end Py

set_option Elab.async false
set_option linter.all false
set_option maxRecDepth 100000
set_option maxHeartbeats 2000000
/-! PyP: blocks compiled. -/
namespace Py
open PySem PySem.Spec PyProof.Rows L2
open Evl (Ex)
open Eng (wS wB pss_w wS_of wB_of)
def shade (s : Scope) (x : Str) : Bool := s.names.any fun (n, k) => n == x && (k == .local || k == .cell)
/-- surely not written ahead of the list; surely so -/
def sw0 (E : CE) (x : Str) (p : Pos) (e : Expr) : Bool := match e with
  | .ListComp _ _ s lp => !(E.sc.names.lookup x == some .local && p.line == lp.line && !shade s x)
  | .SetComp .. => false
  | .DictComp .. => false
  | _ => true
def sw1 (E : CE) (x : Str) (p : Pos) (e : Expr) : Bool := match e with
  | .ListComp _ _ s lp => E.sc.kind == .function && (E.sc.names.lookup x == some .local && p.line == lp.line && !shade s x)
  | _ => false
def notTup (e : Expr) : Bool := match e with
  | .Tuple .. => false
  | .ListComp .. => false
  | .SetComp .. => false
  | .DictComp .. => false
  | _ => true
def augOk : Operator → Bool
  | .Add => true | .BitXor => true | .BitOr => true | .Sub => true | .BitAnd => true
  | _ => false
def sweep (E : CE) (u : List Sm) : List Sm := if E.ms.isEmpty then u else u ++ [.gc]
def CE.wsOf (E : CE) (pos : Pos) : List Nat := match E.wl.lookup pos.line with
  | some xs => xs.filterMap (idxN E.N)
  | none => []
mutual
def compS : Nat → CE → Stmt → Option Sm
  | 0, _, _ => none
  | n + 1, E, st => match st with
    | .Assign [tg] e pos => match tg with
      | .Name x p => match slotOf E (.Name x p) with
        | some i => if sw0 E x p e || sw1 E x p e then (comp n E (decide (x ∈ E.ms)) e).map (.asg i) else none
        | none => none
      | .Tuple ts k p => if notTup e then match compG E (.Tuple ts k p), comp n E false e with
        | some (.tup is), some t => some (.asgT is t)
        | _, _ => none else none
      | .Subscript (.Name x p) b ip => if notSlice b then match comp n E false (.Name x p), comp n E false b, comp n E false e with
        | some (.var i), some u, some t => some (.asgI (.var i) u t)
        | _, _, _ => none else none
      | _ => none
    | .Assign [.Name x p, .Name y q] e pos => match slotOf E (.Name x p), slotOf E (.Name y q), comp n E false e with
      | some i, some j, some t => some (.asg2 i j t)
      | _, _, _ => none
    | .AugAssign (.Name x p) op e pos => if augOk op then match slotOf E (.Name x p), comp n E false e with
      | some i, some t => some (.aug i op t)
      | _, _ => none else none
    | .Expr e pos => match e with
      | .Constant (.str _) _ _ => some .pass
      | .Call (.Attribute (.Name x p) m ap) [a] [] cp => if notStar a && (ap.endLine == cp.line) then (if m = "append" then match comp n E false (.Name x p), comp n E false a with
          | some (.var i), some t => some (.app (.var i) t)
          | _, _ => none
        else if m = "extend" then match comp n E false (.Name x p), comp n E true a with
          | some (.var i), some t => some (.ext (.var i) t)
          | _, _ => none
        else none) else none
      | .Call (.Name f fp) args kws cp => (comp n E false (.Call (.Name f fp) args kws cp)).map .drop
      | _ => none
    | .Return r pos => match r with
      | some e => (comp n E (listy E e) e).map .ret
      | none => some (.ret (.dat .none))
    | .If t a b pos => match comp n E false t, compB n E a, compB n E b with
      | some t, some u, some v => some (.ite t u v)
      | _, _, _ => none
    | .For tg it body [] pos => if E.calm then match compIt (comp n E false) E tg it, compG E tg, compB n E body with
      | some i, some g, some u => some (.for_ g i (sweep E u) (E.wsOf pos))
      | _, _, _ => none else none
    | .While t body [] pos => match comp n E false t, compB n E body with
      | some t, some u => some (.while_ t (sweep E u) (E.wsOf pos))
      | _, _ => none
    | .Raise (some (.Call (.Name C p) [.Constant (.str m) j p2] [] cp)) none pos => if E.calm && E.xs.contains C && E.gl C && !(C == ("__debug__" : Str)) then some (.raise C) else none
    | .Try body [.ExceptHandler (some (.Name C np)) nm (b₀ :: ss) pos'] [] [] pos => if E.calm && E.xs.contains C && E.gl C && !(C == ("__debug__" : Str)) then match compB n E body, compB n E.suite (b₀ :: ss) with
      | some u, some v => match nm with
        | none => some (.try_ u C none v)
        | some y => if E.sc.names.lookup y = some .local then (idxN E.N y).map fun j => .try_ u C (some j) v else none
      | _, _ => none else none
    | .Pass pos => some .pass
    | .Break pos => some .brk
    | .Continue pos => some .cnt
    | _ => none
def compB : Nat → CE → List Stmt → Option (List Sm)
  | 0, _, _ => none
  | _ + 1, _, [] => some []
  | n + 1, E, s :: ss => match compS n E s, compB n E ss with
    | some t, some u => some (t :: u)
    | _, _ => none
end
section
variable {X : Cx} {c : Ct} {E : CE} {Γ : Gm} {A A1 : AS} {e a b tg it : Expr} {es : List Expr} {st : Stmt} {sts rest : List Stmt} {o : Fl} {pos : Pos}
theorem sw0_ok {x : Str} {p : Pos} {l : Nat} (hs : X.env.scope = E.sc) (h : sw0 E x p e = true) : swapsWith e (some (.Name x p)) l X.env = pure false := by
  unfold sw0 at h
  split at h
  · rename_i elt gens s lp
    have hk : X.env.kindOf x = E.sc.names.lookup x := by show X.env.scope.names.lookup x = _; rw [hs]
    show (pure (X.env.blockKind == .function && X.env.kindOf x == some .local && p.line == lp.line && !shade s x) : Sem Bool) = pure false
    rw [hk]
    congr 1
    cases h1 : (E.sc.names.lookup x == some NameKind.local) <;> cases h2 : (p.line == lp.line) <;> cases h3 : shade s x <;> simp_all
  · cases h
  · cases h
  · rename_i h1 h2 h3
    cases e <;> first | rfl | exact absurd rfl (h1 _ _ _ _) | exact absurd rfl (h2 _ _ _ _) | exact absurd rfl (h3 _ _ _ _ _)
theorem sw1_ok {x : Str} {p : Pos} {l : Nat} (hs : X.env.scope = E.sc) (h : sw1 E x p e = true) : swapsWith e (some (.Name x p)) l X.env = pure true ∧ E.sc.names.lookup x = some .local ∧ ∃ elt gens s lp, e = .ListComp elt gens s lp := by
  unfold sw1 at h
  split at h
  · rename_i elt gens s lp
    have hk : X.env.kindOf x = E.sc.names.lookup x := by show X.env.scope.names.lookup x = _; rw [hs]
    rw [Bool.and_eq_true, Bool.and_eq_true, Bool.and_eq_true] at h
    obtain ⟨h0, ⟨h1, h2⟩, h3⟩ := h
    refine ⟨?_, by simpa using h1, _, _, _, _, rfl⟩
    show (pure (X.env.blockKind == .function && X.env.kindOf x == some .local && p.line == lp.line && !shade s x) : Sem Bool) = pure true
    have hb : (X.env.blockKind == .function) = true := by
      unfold PySem.Env.blockKind
      rw [hs]
      have : E.sc.kind = .function := by simpa using h0
      rw [this]; rfl
    rw [hk, hb, h1, h2, h3]; rfl
  · cases h
theorem Hy.of (H : Hy X c E Γ) {c' : Ct} (h1 : c'.own = c.own) (h2 : c'.cm = c.cm) (h3 : c'.ea = c.ea) : Hy X c' E Γ where
  hN := H.hN
  nd := H.nd
  sc := H.sc
  fn := H.fn
  calm := H.calm
  cea := fun z => by rw [h3]; exact H.cea z
  isx := fun C D a b z => H.isx C D a b (by rw [← h3]; exact z)
  hu := H.hu
  bl := H.bl
  cs := H.cs
  fns := fun x m h => by rw [h2]; exact H.fns x m h
  r := by rw [h1]; exact H.r
theorem HyS.of (H : HyS X c E Γ) {c' : Ct} (h1 : c'.own = c.own) (h2 : c'.cm = c.cm) (h3 : c'.ea = c.ea) : HyS X c' E Γ where
  toHy := H.toHy.of h1 h2 h3
  hp := H.hp
  stk := H.stk
  frm := H.frm
  mkc := H.mkc
  exc := H.exc
theorem comp_good {n : Nat} {fr : Bool} {t : Tm} (H : Hy X c E Γ) (h : comp n E fr e = some t) : Good X c Γ e t := (comp_ok n H h).1
def OkS (n : Nat) : Prop := ∀ {X : Cx} {c : Ct} {E : CE} {Γ : Gm} {st : Stmt} {sm : Sm}, HyS X c E Γ → compS n E st = some sm → ∀ {A : AS} {o : Fl}, exS Γ sm A = some o → SS X c st A o
def OkB (n : Nat) : Prop := ∀ {X : Cx} {c : Ct} {E : CE} {Γ : Gm} {sts : List Stmt} {ss : List Sm}, HyS X c E Γ → compB n E sts = some ss → ∀ {A : AS} {o : Fl}, exB Γ ss A = some o → SB X c sts A o
theorem sweep_ok {n : Nat} {u : List Sm} (ih : OkB n) (H : HyS X c E Γ) (h : compB n E sts = some u) (q : exB Γ (sweep E u) A = some o) : SB X c sts A o := by
  unfold sweep at q
  split at q
  · exact ih H h q
  · exact sb_gc H.r (fun A o z => ih H h z) q
theorem okB_succ {n : Nat} (h1 : OkS n) (h2 : OkB n) : OkB (n + 1) := by
  intro X c E Γ sts ss H h A o q
  cases sts with
  | nil => cases h; cases q; exact sb_nil
  | cons s rest =>
    unfold compB at h
    split at h
    · rename_i t u e1 e2
      cases h
      have q : F.seq (exS Γ t) (exB Γ u) A = some o := q
      rcases seq_inv q with ⟨A1, q1, q2⟩ | ⟨q1, q2⟩
      · exact sb_cons (h1 H e1 q1) (h2 H e2 q2)
      · exact sb_stop (h1 H e1 q1) q2
    · cases h
theorem ss_asgAny {n : Nat} {fr : Bool} {x : Str} {p : Pos} {i : Nat} {t : Tm} (H : HyS X c E Γ) (hs : slotOf E (.Name x p) = some i) (hsw : (sw0 E x p e || sw1 E x p e) = true) (ht : comp n E fr e = some t) (q : exS Γ (.asg i t) A = some o) : SS X c (.Assign [.Name x p] e pos) A o := by
  by_cases h0 : sw0 E x p e = true
  · exact ss_asg H.toHy hs (comp_good H.toHy ht) (sw0_ok H.sc h0) q
  · have h1 : sw1 E x p e = true := by
      rw [Bool.or_eq_true] at hsw
      exact hsw.resolve_left h0
    have k0 := (sw1_ok (l := pos.line) H.sc h1).1
    obtain ⟨_, k2, elt, gens, s, lp, rfl⟩ := sw1_ok (l := 0) H.sc h1
    cases n with
    | zero => cases ht
    | succ n =>
      unfold comp at ht
      dsimp only at ht
      split at ht
      · split at ht
        · rename_i hb
          rw [Bool.and_eq_true] at hb
          split at ht
          · split at ht
            · rename_i hc
              rw [Bool.and_eq_true] at hc
              cases ht
              exact ss_setLc H.toHy (fun e t z => comp_good H.toHy z) (fun X' c' H' e t z => comp_good H' z) hb.1 hb.2 ‹_› ‹_› ‹_› ‹_› hc.1 hs k2 k0 q
            · cases ht
          · cases ht
        · cases ht
      · cases ht
theorem notTup_ok {ts : List Expr} {k : Nat} {p : Pos} {l : Nat} {env : Env} (h : notTup e = true) : swapsWith e (some (.Tuple ts k p)) l env = pure false ∧ swappedStores [.Tuple ts k p] e env = pure none := by
  cases e <;> first | exact ⟨rfl, rfl⟩ | cases h
theorem augOk_ok {op : Operator} (h : augOk op = true) : op = .Add ∨ op = .BitXor ∨ op = .BitOr ∨ op = .Sub ∨ op = .BitAnd := by
  cases op <;> first | (cases h; done) | simp
theorem okS_succ {n : Nat} (h2 : OkB n) : OkS (n + 1) := by
  intro X c E Γ st sm H h A o q
  unfold compS at h
  split at h
  · split at h
    · -- name = e
      split at h
      · rename_i i hs
        split at h
        · rename_i hsw
          obtain ⟨t, ht, rfl⟩ := map_some h
          exact ss_asgAny H hs hsw ht q
        · cases h
      · cases h
    · split at h
      · rename_i hn
        split at h
        · cases h
          exact ss_asgT H.toHy ‹_› (comp_good H.toHy ‹_›) (notTup_ok hn).1 (notTup_ok (l := 0) hn).2 q
        · cases h
      · cases h
    · split at h
      · split at h
        · cases h
          exact ss_asgI H.r (comp_good H.toHy ‹_›) (comp_good H.toHy ‹_›) (comp_good H.toHy ‹_›) ‹_› q
        · cases h
      · cases h
    · cases h
  · split at h
    · cases h
      exact ss_asg2 H.toHy ‹_› ‹_› (comp_good H.toHy ‹_›) q
    · cases h
  · split at h
    · rename_i ho
      split at h
      · cases h
        exact ss_aug H.toHy ‹_› (comp_good H.toHy ‹_›) (augOk_ok ho) q
      · cases h
    · cases h
  · split at h
    · cases h; exact ss_doc q
    · split at h
      · rename_i hc
        rw [Bool.and_eq_true] at hc
        split at h
        · rename_i hm
          subst hm
          split at h
          · cases h
            exact ss_app H.r (comp_good H.toHy ‹_›) (comp_good H.toHy ‹_›) hc.1 hc.2 q
          · cases h
        · split at h
          · rename_i hm
            subst hm
            split at h
            · cases h
              exact ss_ext (comp_good H.toHy ‹_›) (comp_good H.toHy ‹_›) hc.1 hc.2 q
            · cases h
          · cases h
      · cases h
    · obtain ⟨t, ht, rfl⟩ := map_some h
      exact ss_drop (comp_good H.toHy ht) rfl q
    · cases h
  · split at h
    · obtain ⟨t, ht, rfl⟩ := map_some h
      exact ss_ret (comp_good H.toHy ht) q
    · cases h; exact ss_retN q
  · split at h
    · cases h
      exact ss_if (comp_good H.toHy ‹_›) (fun A o z => h2 H ‹_› z) (fun A o z => h2 H ‹_› z) q
    · cases h
  · -- for
    split at h
    · rename_i hcalm
      split at h
      · rename_i i g u h3 h4 h5
        cases h
        have q : ((evI Γ i).then fun ds => fun A => forGo g (E.wsOf _) (exB Γ (sweep E u)) ds ⟨wipeV A.ρ (E.wsOf _), A.μ⟩) A = some o := q
        obtain ⟨k1, k2⟩ := compIt_ok (fun e t z => comp_good H.toHy z) H.toHy h3
        rcases then_inv q with ⟨ds, A1, q1, q2⟩ | ⟨C, A1, q1, rfl⟩
        · exact for_ok H hcalm (k1 _ _ q1) h4 (k2 _) (fun c' A o e1 e2 e3 z => sweep_ok h2 (H.of e1 e2 e3) h5 z) q2
        · intro G ps σ Hh S xk
          exact wS_of (ps_for H.hp (H.calm hcalm) Eng.pi_w (compG_ok H.toHy h4) pss_w (k2 _)) (Eng.wI_mono (k1 _ _ q1 G ps σ Hh S xk) fun J H1 ⟨ds', A0', e0, _⟩ => by cases e0)
      · cases h
    · cases h
  · -- while
    split at h
    · cases h
      exact while_ok H (comp_good H.toHy ‹_›) (fun A o z => sweep_ok h2 H ‹_› z) q
    · cases h
  · split at h
    · rename_i hc
      rw [Bool.and_eq_true, Bool.and_eq_true, Bool.and_eq_true] at hc
      cases h
      exact ss_raise H hc.1.1.1 hc.1.1.2 hc.1.2 (by simpa using hc.2) q
    · cases h
  · split at h
    · rename_i hc
      rw [Bool.and_eq_true, Bool.and_eq_true, Bool.and_eq_true] at hc
      split at h
      · rename_i u v e1 e2
        split at h
        · cases h
          exact ss_try1 H hc.1.1.1 hc.1.1.2 hc.1.2 (by simpa using hc.2) (fun X' A o H' z => h2 H' e1 z) (fun X' c' A o H' z => h2 H' e2 z) q
        · split at h
          · obtain ⟨j, hj, rfl⟩ := map_some h
            exact ss_try2 H hc.1.1.1 hc.1.1.2 hc.1.2 (by simpa using hc.2) hj ‹_› (fun X' A o H' z => h2 H' e1 z) (fun X' c' A o H' z => h2 H' e2 z) q
          · cases h
      · cases h
    · cases h
  · cases h; exact ss_pass q
  · cases h; exact ss_brk q
  · cases h; exact ss_cnt q
  · cases h
theorem ok_all : ∀ n : Nat, OkS n ∧ OkB n
  | 0 => by
    refine ⟨?_, ?_⟩
    · intro X c E Γ st sm H h; cases h
    · intro X c E Γ sts ss H h; cases h
  | n + 1 => ⟨okS_succ (ok_all n).2, okB_succ (ok_all n).1 (ok_all n).2⟩
/-- a block that is compiled does what the interpreter says -/
theorem compB_ok {n : Nat} {ss : List Sm} (H : HyS X c E Γ) (h : compB n E sts = some ss) (q : exB Γ ss A = some o) : SB X c sts A o := (ok_all n).2 H h q
end
end Py

set_option Elab.async false
set_option linter.all false
set_option maxRecDepth 100000
set_option maxHeartbeats 2000000
/-! PyQ: defs. -/
namespace Py
open PySem PySem.Spec PyProof.Rows L2
open Evl (Ex)
open Eng (wS wB pss_w wS_of wB_of wB_mono)
/-- what a def answers: what nobody names is swept away -/
def runF (Γ : Gm) (body : List Sm) (n m : Nat) : List SV → List ON → Option RO := fun ss μ => if ss.length = n then (match exB { Γ with r := μ.length } body ⟨ss ++ List.replicate (m - n) .any, μ⟩ with
  | some (.rt sv A) => match gcA μ.length ⟨[sv], A.μ⟩ with
    | ⟨[s], μ'⟩ => some (.ret s μ')
    | _ => none
  | some (.nx A) => some (.ret (.dat .none) (gcA μ.length ⟨[], A.μ⟩).μ)
  | some (.ex C A) => if (Γ.sub C C).isSome = true then some (.ex C (gcA μ.length ⟨[], A.μ⟩).μ) else none
  | _ => none) else none
/-- what a module gives to its defs -/
structure ModOk (P : Program) (w : World) (K : PySem.W.Frag) (mg : Str → Option Value) (base : Heap) (cm : Str → Option Addr) (lev : Nat) (E : CE) (Γ : Gm) : Prop where
  calm : E.calm = true
  blk : E.blk = none
  bl : ∀ x ∈ E.bl, mg x = none
  cs : ∀ x d, E.cs.lookup x = some d → ∃ v u, mg x = some u ∧ RelV v u ∧ Fla K v d
  fns : ∀ x m, E.fns.lookup x = some m → ∃ l, l ≤ lev ∧ Cal P w K cm mg base l x (Γ.fn x)
  mkc : ∀ C, E.xs.contains C = true → ∃ a B newId initId bmB, ExcBaseFacts B newId initId bmB ∧ PySem.W.excIn K a bmB newId = true ∧ mg C = some (.ref a) ∧ PySem.W.keepIn K (.ref a) = true ∧ ∀ X : Cx, X.K = K → Raises X (.ref a)
  exc : ∀ D C b, Γ.sub D C = some b → ∃ a cv, mg D = some (.ref a) ∧ mg C = some (.ref cv) ∧ ExcC K a ∧ PySem.W.exmOne K (.ref a) (.ref cv) = some b ∧ PySem.W.kitOne K (.ref a) (.ref cv) = some b
section
variable {P : Program} {w : World} {K : PySem.W.Frag} {mg : Str → Option Value} {base : Heap} {cm : Str → Option Addr} {lev : Nat} {E : CE} {Γ : Gm} {G : Hp} {ps : List Addr} {H : Hp} {c : Ct} {μ : List ON}
theorem start_slot : ∀ {vs : List V} {ss : List SV} {k j : Nat}, VsOk K G ps vs ss → ∀ (i : Nat) (sv : SV), (ss ++ List.replicate k SV.any)[i]? = some sv → SlotOk K none G ps (vs.map some ++ List.replicate j none)[i]? sv
  | [], [], k, j, _, i, sv, h => by
    rw [List.nil_append, List.getElem?_replicate] at h
    split at h
    · cases h; exact True.intro
    · cases h
  | v :: vs, s :: ss, k, j, ⟨h1, h2⟩, 0, sv, h => by
    have e : s = sv := Option.some.inj h
    subst e
    cases s with
    | dat d => exact ⟨v, rfl, h1⟩
    | own d => exact ⟨v, rfl, h1⟩
    | any => exact h1.elim
    | exc d => exact h1.elim
  | v :: vs, s :: ss, k, j, ⟨h1, h2⟩, i + 1, sv, h => start_slot (vs := vs) (ss := ss) (k := k) (j := j) h2 i sv h
theorem HS.gc1 {sv : SV} {v : V} (h : HS K c μ G ps H) (r : VOk K G ps v sv) {s : SV} {μ' : List ON} (e : gcA c.own.length ⟨[sv], μ⟩ = ⟨[s], μ'⟩) : ∃ qs, HS K c μ' G qs H ∧ VOk K G qs v s := by
  have S : St K c ⟨[sv], μ⟩ G ps [some v] H := ⟨h, rfl, fun i t hi => by
    cases i with
    | zero =>
      have e : sv = t := Option.some.inj hi
      subst e
      cases sv with
      | dat d => exact ⟨v, rfl, r⟩
      | own d => exact ⟨v, rfl, r⟩
      | any => exact r.elim
      | exc d => exact r.elim
    | succ i => cases hi⟩
  obtain ⟨qs, S2⟩ := S.gc
  rw [e] at S2
  refine ⟨qs, S2.hs, ?_⟩
  have z := S2.sl 0 s rfl
  have hs : s ≠ .any ∧ ∀ C, s ≠ .exc C := by
    have e2 : (gcA c.own.length ⟨[sv], μ⟩).ρ = [s] := by rw [e]
    unfold gcA at e2
    split at e2
    · have e3 : gcV c.own.length (gcKs c.own.length [] [sv]) sv = s := (List.cons.inj e2).1
      rw [← e3]
      cases sv with
      | dat d => exact ⟨(fun z => by cases z), (fun _ z => by cases z)⟩
      | own d => exact ⟨(fun z => by cases z), (fun _ z => by cases z)⟩
      | any => exact r.elim
      | exc d => exact r.elim
    · have e3 : sv = s := (List.cons.inj e2).1
      rw [← e3]
      cases sv with
      | dat d => exact ⟨(fun z => by cases z), (fun _ z => by cases z)⟩
      | own d => exact ⟨(fun z => by cases z), (fun _ z => by cases z)⟩
      | any => exact r.elim
      | exc d => exact r.elim
  cases s with
  | dat d => obtain ⟨v', e1, e2⟩ := z; cases e1; exact e2
  | own d => obtain ⟨v', e1, e2⟩ := z; cases e1; exact e2
  | any => exact absurd rfl hs.1
  | exc d => exact absurd rfl (hs.2 d)
theorem HS.gc0 (h : HS K c μ G ps H) : ∃ qs, HS K c (gcA c.own.length ⟨[], μ⟩).μ G qs H := by
  have S : St K c ⟨[], μ⟩ G ps [] H := ⟨h, rfl, fun i t hi => by cases hi⟩
  obtain ⟨qs, S2⟩ := S.gc
  exact ⟨qs, S2.hs⟩
theorem def_okP {x qual : Str} {st : Stmt} {f : Addr} {fd : FuncData} {pn : List Str} {n : Nat} {body : List Sm} (F : Fun K x qual st f fd) (S : FnScope E.N pn (defScope st)) (hsc : E.sc = defScope st) (M : ModOk P w K mg base cm lev E Γ) (hc : compB n E (defBody st) = some body) :
    FnOk P w K mg base (L2.CX P w) (lev + 1) f fd pn (liftF K cm mg (runF Γ body pn.length E.N.length) pn.length) := by
  refine F.okX S (fun vs H Q E' h => ?_) (fun cdv A outer s H vs Q E' hr h => ?_)
  · obtain ⟨_, _, _, _, _, h, _⟩ := h; exact h
  · obtain ⟨G, own, ss, μ, ro, hl, hΦ, hs, hv, hq⟩ := h
    refine ⟨_, pss_w, ?_⟩
    unfold runF at hΦ
    split at hΦ
    · rename_i hlen
      have hy : HyS (cxOf (L2.CX P w) P w K mg base E.N qual (defScope st) f cdv A outer s H E') ⟨H, G, own, cm, none⟩ E { Γ with r := μ.length } := {
        hN := rfl
        nd := S.nd
        sc := hsc.symm
        fn := fun _ _ => rfl
        calm := fun _ => rfl
        cea := fun _ => rfl
        isx := fun C D a b z => by cases z
        hu := by have := hr.un; show (A.deeper _).units + 65 < cLine; omega
        bl := M.bl
        cs := M.cs
        fns := fun x m h => by
          obtain ⟨l, hl, C⟩ := M.fns x m h
          exact ⟨l, C, hr.mono hl⟩
        r := hs.mlen
        hp := passes_of rfl
        stk := rfl
        frm := rfl
        mkc := fun C hC => by
          obtain ⟨a, B, i1, i2, i3, h1, h2, h3, h4, h5⟩ := M.mkc C hC
          exact ⟨a, B, i1, i2, i3, h1, h2, h3, h4, h5 _ rfl⟩
        exc := M.exc }
      have St0 : St K ⟨H, G, own, cm, none⟩ ⟨ss ++ List.replicate (E.N.length - pn.length) .any, μ⟩ G own (start E.N vs) H := ⟨hs, by
        show (vs.map some ++ List.replicate _ none).length = (ss ++ List.replicate _ SV.any).length
        rw [List.length_append, List.length_append, List.length_map, List.length_replicate, List.length_replicate, hl, hlen], start_slot hv⟩
      cases hrun : exB { Γ with r := μ.length } body ⟨ss ++ List.replicate (E.N.length - pn.length) .any, μ⟩ with
      | none => rw [hrun] at hΦ; cases hΦ
      | some o =>
        rw [hrun] at hΦ
        have xo : XOkF (cxOf (L2.CX P w) P w K mg base E.N qual (defScope st) f cdv A outer s H E') ⟨H, G, own, cm, none⟩ o := by
          cases o with
          | ex C A1 =>
            dsimp only at hΦ
            split at hΦ
            · rename_i hk
              cases hΦ
              cases hsub : Γ.sub C C with
              | none => rw [hsub] at hk; cases hk
              | some b =>
                obtain ⟨a, cv, m1, _, _, _, _⟩ := M.exc C C b hsub
                refine ⟨_, takes_of rfl rfl rfl rfl, a, m1, fun G' ps' σ' H' S' => ?_⟩
                obtain ⟨qs, k⟩ := S'.hs.gc0
                rw [show (⟨H, G, own, cm, none⟩ : Ct).own.length = μ.length from hs.mlen] at k
                exact hq a G' qs H' m1 k
            · cases hΦ
          | _ => exact True.intro
        refine wB_mono (compB_ok hy hc hrun G own _ H St0 xo) (fun σ4 H4 ⟨A4, G4, ps4, e4, S4⟩ => ?_) (fun v4 H4 ⟨sv, A4, G4, ps4, σ4, e4, S4, r4⟩ => ?_) (fun σ4 H4 ⟨A4, G4, ps4, e4, S4⟩ => ?_) (fun σ4 H4 ⟨A4, G4, ps4, e4, S4⟩ => ?_) <;> subst e4
        · cases hΦ
          obtain ⟨qs, k⟩ := S4.hs.gc0
          rw [show (⟨H, G, own, cm, none⟩ : Ct).own.length = μ.length from hs.mlen] at k
          exact hq .non G4 qs H4 k (.non : Dp _ _ _ _)
        · dsimp only at hΦ
          split at hΦ
          · rename_i s' μ' hg
            cases hΦ
            obtain ⟨qs, k, r⟩ := HS.gc1 S4.hs r4 (s := s') (μ' := μ') (by rw [show (⟨H, G, own, cm, none⟩ : Ct).own.length = μ.length from hs.mlen]; exact hg)
            exact hq v4 G4 qs H4 k r
          · cases hΦ
        · cases hΦ
        · cases hΦ
    · cases hΦ
theorem cal_of {x qual : Str} {st : Stmt} {f : Addr} {fd : FuncData} {pn : List Str} {n : Nat} {body : List Sm} (F : Fun K x qual st f fd) (S : FnScope E.N pn (defScope st)) (hsc : E.sc = defScope st) (M : ModOk P w K mg base cm lev E Γ) (hc : compB n E (defBody st) = some body)
    (hm : mg x = some (.ref f)) (hk : PySem.W.keepIn K (.ref f) = true) (hb : Binds K fd pn []) : Cal P w K cm mg base (lev + 1) x (runF Γ body pn.length E.N.length) :=
  ⟨f, fd, pn, pn.length, def_okP F S hsc M hc, hm, hk, hb, fun ss μ h => by
    unfold runF at h
    split at h
    · assumption
    · exact absurd rfl h⟩
end
end Py

set_option Elab.async false
set_option linter.all false
set_option maxRecDepth 100000
set_option maxHeartbeats 2000000
/-! PyR: the table of defs, the law's end, printing. -/
namespace Py
open PySem PySem.Spec PyProof.Rows L2
open Evl (Ex)
def Gm0 (sub : Str → Str → Option Bool) : Gm := ⟨fun _ _ _ => none, sub, 0⟩
def Gm.add (Γ : Gm) (x : Str) (Φ : List SV → List ON → Option RO) : Gm := ⟨fun y => if y = x then Φ else Γ.fn y, Γ.sub, Γ.r⟩
theorem Gm.add_same {Γ : Gm} {x : Str} {Φ : List SV → List ON → Option RO} : (Γ.add x Φ).fn x = Φ := if_pos rfl
theorem Gm.add_ne {Γ : Gm} {x y : Str} {Φ : List SV → List ON → Option RO} (h : y ≠ x) : (Γ.add x Φ).fn y = Γ.fn y := if_neg h
def noSub : Str → Str → Option Bool := fun _ _ => none
section
variable {P : Program} {w : World} {K : PySem.W.Frag} {mg : Str → Option Value} {base : Heap} {cm : Str → Option Addr}
theorem Cal.up {l l' : Nat} {x : Str} {Φ : List SV → List ON → Option RO} (h : Cal P w K cm mg base l x Φ) (hl : l ≤ l') : Cal P w K cm mg base l' x Φ := by
  obtain ⟨f, fd, ps, n, F, h1, h2, h3, h4⟩ := h
  exact ⟨f, fd, ps, n, F.mono hl, h1, h2, h3, h4⟩
/-- the table: what is known of each name -/
def TabOk (P : Program) (w : World) (K : PySem.W.Frag) (cm : Str → Option Addr) (mg : Str → Option Value) (base : Heap) (lev : Nat) (fns : List (Str × Nat)) (Γ : Gm) : Prop := ∀ x m, fns.lookup x = some m → ∃ l, l ≤ lev ∧ Cal P w K cm mg base l x (Γ.fn x)
theorem tab_nil {lev : Nat} {Γ : Gm} : TabOk P w K cm mg base lev [] Γ := fun x m h => by cases h
theorem tab_cons {lev l : Nat} {Γ : Gm} {x : Str} {m : Nat} {fns : List (Str × Nat)} {Φ : List SV → List ON → Option RO} (C : Cal P w K cm mg base l x Φ) (hl : l ≤ lev) (e : Γ.fn x = Φ) (h : TabOk P w K cm mg base lev fns Γ) : TabOk P w K cm mg base lev ((x, m) :: fns) Γ := fun y k q => by
  by_cases hy : y = x
  · subst hy
    exact ⟨l, hl, by rw [e]; exact C⟩
  · refine h y k ?_
    have : (y == x) = false := by simpa using hy
    rw [List.lookup_cons, this] at q
    exact q
theorem sql_dp {H : Hp} {a : Addr} {ns : List Int} (h : SqL K H a (ns.map V.int)) : Dp K H (.ref a) (.list (ns.map .int)) := by
  refine .lst h ?_
  clear h
  induction ns with
  | nil => exact .nil
  | cons n ns ih => exact .cons (.int n) ih
/-- the law answers True for every script -/
theorem law_okP {lev : Nat} {f : Addr} {fd : FuncData} {Φ : List SV → List ON → Option RO} (F : FnOk P w K mg base (L2.CX P w) lev f fd ["script"] (liftF K cm mg Φ 1))
    (h : ∀ ns : List Int, ns.length ≤ 63 → ∃ μ, Φ [.dat (.list (ns.map .int))] [] = some (.ret (.dat (.bool true)) μ)) : FnOk P w K mg base (L2.CX P w) lev f fd ["script"] (Eng.spLaw K) := by
  refine F.imp fun vs H Q E ⟨a, ns, e, hS, hl, q⟩ => ?_
  subst e
  obtain ⟨μ, hΦ⟩ := h ns hl
  refine ⟨H, [], _, _, _, rfl, hΦ, HS.start0 (Ex.refl H), ⟨sql_dp hS, True.intro⟩, fun v G2 qs H2 _ r => ?_⟩
  have e : v = .bl true := Eng.dp_bl r
  rw [e]; exact q H2
theorem cx_no {H : Hp} {s : Shared} {e : Value} {s' : Shared} (h : L2.CX P w [] H s (fun _ _ _ => False) e s') : False := by
  obtain ⟨_, _, _, _, _, _, _, _, _, _, _, _, z⟩ := h
  exact z
end
end Py
set_option Elab.async false
set_option linter.all false
set_option maxRecDepth 100000
set_option maxHeartbeats 4000000
namespace Pf
open PySem PySem.Spec PyProof.Rows L2 Py
open Evl (Ex)
def topS (i : Nat) : Stmt := PySem.Challenge.pw_bastion_k03_combinations.main.body.getD i (.Pass ⟨0, 0, 0, 0⟩)
abbrev XS : List Str := ["BastionError", "NoSolution", "InvalidText"]
abbrev CS : List (Str × PyData) := []
abbrev s_members : Stmt := topS 5
abbrev N_members : List Str := ["mask", "found", "lowest"]
theorem sc_members : FnScope N_members ["mask"] (defScope s_members) := ⟨rfl, rfl, rfl, by decide +kernel, rfl, by decide +kernel, by decide +kernel⟩
abbrev E_members : CE := ⟨N_members, defScope s_members, none, ["len", "abs", "int", "min", "max", "sum", "any", "all", "list", "sorted", "tuple", "range", "enumerate", "zip", "isinstance", "bool", "str", "dict", "float"], [], CS, true, XS, ["found"], ["_law_basis", "_law_masks", "_law_pool", "combination", "echelon", "members", "tagged"], [(11, ["lowest"])]⟩
abbrev s_reduced : Stmt := topS 6
abbrev N_reduced : List Str := ["basis", "mask", "row"]
theorem sc_reduced : FnScope N_reduced ["basis", "mask"] (defScope s_reduced) := ⟨rfl, rfl, rfl, by decide +kernel, rfl, by decide +kernel, by decide +kernel⟩
abbrev E_reduced : CE := ⟨N_reduced, defScope s_reduced, none, ["len", "abs", "int", "min", "max", "sum", "any", "all", "list", "sorted", "tuple", "range", "enumerate", "zip", "isinstance", "bool", "str", "dict", "float"], [], CS, true, XS, [], ["_law_basis", "_law_masks", "_law_pool", "combination", "echelon", "members", "tagged"], [(17, ["row"])]⟩
abbrev s_echelon : Stmt := topS 7
abbrev N_echelon : List Str := ["rows", "basis", "row", "rest", "highest", "mask"]
theorem sc_echelon : FnScope N_echelon ["rows"] (defScope s_echelon) := ⟨rfl, rfl, rfl, by decide +kernel, rfl, by decide +kernel, by decide +kernel⟩
abbrev E_echelon : CE := ⟨N_echelon, defScope s_echelon, none, ["len", "abs", "int", "min", "max", "sum", "any", "all", "list", "sorted", "tuple", "range", "enumerate", "zip", "isinstance", "bool", "str", "dict", "float"], [("reduced", 1)], CS, true, XS, ["basis"], ["_law_basis", "_law_masks", "_law_pool", "combination", "echelon", "members", "tagged"], [(22, ["row", "rest", "highest", "mask"])]⟩
abbrev s_tagged : Stmt := topS 8
abbrev N_tagged : List Str := ["masks", "room", "k", "mask"]
theorem sc_tagged : FnScope N_tagged ["masks"] (defScope s_tagged) := ⟨rfl, rfl, rfl, by decide +kernel, rfl, by decide +kernel, by decide +kernel⟩
abbrev E_tagged : CE := ⟨N_tagged, defScope s_tagged, none, ["len", "abs", "int", "min", "max", "sum", "any", "all", "list", "sorted", "tuple", "range", "enumerate", "zip", "isinstance", "bool", "str", "dict", "float"], [], CS, true, XS, [], ["_law_basis", "_law_masks", "_law_pool", "combination", "echelon", "members", "tagged"], []⟩
abbrev s_least_combination : Stmt := topS 9
abbrev N_least_combination : List Str := ["masks", "total", "room", "rest"]
theorem sc_least_combination : FnScope N_least_combination ["masks", "total"] (defScope s_least_combination) := ⟨rfl, rfl, rfl, by decide +kernel, rfl, by decide +kernel, by decide +kernel⟩
abbrev E_least_combination : CE := ⟨N_least_combination, defScope s_least_combination, none, ["len", "abs", "int", "min", "max", "sum", "any", "all", "list", "sorted", "tuple", "range", "enumerate", "zip", "isinstance", "bool", "str", "dict", "float"], [("reduced", 0), ("echelon", 0), ("tagged", 0)], CS, true, XS, [], ["_law_basis", "_law_masks", "_law_pool", "combination", "echelon", "members", "tagged"], []⟩
abbrev s_combination : Stmt := topS 10
abbrev N_combination : List Str := ["rows", "mask"]
theorem sc_combination : FnScope N_combination ["rows", "mask"] (defScope s_combination) := ⟨rfl, rfl, rfl, by decide +kernel, rfl, by decide +kernel, by decide +kernel⟩
abbrev E_combination : CE := ⟨N_combination, defScope s_combination, none, ["len", "abs", "int", "min", "max", "sum", "any", "all", "list", "sorted", "tuple", "range", "enumerate", "zip", "isinstance", "bool", "str", "dict", "float"], [("members", 0), ("least_combination", 0)], CS, true, XS, [], ["_law_basis", "_law_masks", "_law_pool", "combination", "echelon", "members", "tagged"], []⟩
abbrev s__law_is_integer : Stmt := topS 12
abbrev N__law_is_integer : List Str := ["actual"]
theorem sc__law_is_integer : FnScope N__law_is_integer ["actual"] (defScope s__law_is_integer) := ⟨rfl, rfl, rfl, by decide +kernel, rfl, by decide +kernel, by decide +kernel⟩
abbrev E__law_is_integer : CE := ⟨N__law_is_integer, defScope s__law_is_integer, none, ["len", "abs", "int", "min", "max", "sum", "any", "all", "list", "sorted", "tuple", "range", "enumerate", "zip", "isinstance", "bool", "str", "dict", "float"], [], CS, true, XS, [], ["_law_basis", "_law_masks", "_law_pool", "combination", "echelon", "members", "tagged"], []⟩
abbrev s__law_pool : Stmt := topS 13
abbrev N__law_pool : List Str := ["script", "salt", "cell"]
theorem sc__law_pool : FnScope N__law_pool ["script"] (defScope s__law_pool) := ⟨rfl, rfl, rfl, by decide +kernel, rfl, by decide +kernel, by decide +kernel⟩
abbrev E__law_pool : CE := ⟨N__law_pool, defScope s__law_pool, none, ["len", "abs", "int", "min", "max", "sum", "any", "all", "list", "sorted", "tuple", "range", "enumerate", "zip", "isinstance", "bool", "str", "dict", "float"], [], CS, true, XS, [], ["_law_basis", "_law_masks", "_law_pool", "combination", "echelon", "members", "tagged"], [(45, ["cell"])]⟩
abbrev s__law_spread : Stmt := topS 14
abbrev N__law_spread : List Str := ["cell", "mixed", "total", "k"]
theorem sc__law_spread : FnScope N__law_spread ["cell"] (defScope s__law_spread) := ⟨rfl, rfl, rfl, by decide +kernel, rfl, by decide +kernel, by decide +kernel⟩
abbrev E__law_spread : CE := ⟨N__law_spread, defScope s__law_spread, none, ["len", "abs", "int", "min", "max", "sum", "any", "all", "list", "sorted", "tuple", "range", "enumerate", "zip", "isinstance", "bool", "str", "dict", "float"], [], CS, true, XS, [], ["_law_basis", "_law_masks", "_law_pool", "combination", "echelon", "members", "tagged"], [(51, ["k"])]⟩
abbrev s__law_draw : Stmt := topS 15
abbrev N__law_draw : List Str := ["pool", "many", "cell", "mixed", "value"]
theorem sc__law_draw : FnScope N__law_draw ["pool", "many"] (defScope s__law_draw) := ⟨rfl, rfl, rfl, by decide +kernel, rfl, by decide +kernel, by decide +kernel⟩
abbrev E__law_draw : CE := ⟨N__law_draw, defScope s__law_draw, none, ["len", "abs", "int", "min", "max", "sum", "any", "all", "list", "sorted", "tuple", "range", "enumerate", "zip", "isinstance", "bool", "str", "dict", "float"], [("_law_spread", 0)], CS, true, XS, ["pool"], ["_law_basis", "_law_masks", "_law_pool", "combination", "echelon", "members", "tagged"], []⟩
abbrev s__law_basis : Stmt := topS 16
abbrev N__law_basis : List Str := ["rows", "basis", "row", "one"]
theorem sc__law_basis : FnScope N__law_basis ["rows"] (defScope s__law_basis) := ⟨rfl, rfl, rfl, by decide +kernel, rfl, by decide +kernel, by decide +kernel⟩
abbrev E__law_basis : CE := ⟨N__law_basis, defScope s__law_basis, none, ["len", "abs", "int", "min", "max", "sum", "any", "all", "list", "sorted", "tuple", "range", "enumerate", "zip", "isinstance", "bool", "str", "dict", "float"], [], CS, true, XS, ["basis"], ["_law_basis", "_law_masks", "_law_pool", "combination", "echelon", "members", "tagged"], [(72, ["row", "one"]), (73, ["one"])]⟩
abbrev s__law_left : Stmt := topS 17
abbrev N__law_left : List Str := ["basis", "mask", "one"]
theorem sc__law_left : FnScope N__law_left ["basis", "mask"] (defScope s__law_left) := ⟨rfl, rfl, rfl, by decide +kernel, rfl, by decide +kernel, by decide +kernel⟩
abbrev E__law_left : CE := ⟨N__law_left, defScope s__law_left, none, ["len", "abs", "int", "min", "max", "sum", "any", "all", "list", "sorted", "tuple", "range", "enumerate", "zip", "isinstance", "bool", "str", "dict", "float"], [], CS, true, XS, [], ["_law_basis", "_law_masks", "_law_pool", "combination", "echelon", "members", "tagged"], [(80, ["one"])]⟩
abbrev s__law_masks : Stmt := topS 18
abbrev N__law_masks : List Str := ["pool", "most", "width", "rows", "k", "turn"]
theorem sc__law_masks : FnScope N__law_masks ["pool", "most", "width"] (defScope s__law_masks) := ⟨rfl, rfl, rfl, by decide +kernel, rfl, by decide +kernel, by decide +kernel⟩
abbrev E__law_masks : CE := ⟨N__law_masks, defScope s__law_masks, none, ["len", "abs", "int", "min", "max", "sum", "any", "all", "list", "sorted", "tuple", "range", "enumerate", "zip", "isinstance", "bool", "str", "dict", "float"], [("_law_draw", 2)], CS, true, XS, ["pool", "rows"], ["_law_basis", "_law_masks", "_law_pool", "combination", "echelon", "members", "tagged"], [(86, ["k", "turn"])]⟩
abbrev s_law : Stmt := topS 19
abbrev N_law : List Str := ["script", "pool", "width", "rows", "mask", "row", "passed", "reached", "told", "e", "total", "k"]
theorem sc_law : FnScope N_law ["script"] (defScope s_law) := ⟨rfl, rfl, rfl, by decide +kernel, rfl, by decide +kernel, by decide +kernel⟩
abbrev E_law : CE := ⟨N_law, defScope s_law, none, ["len", "abs", "int", "min", "max", "sum", "any", "all", "list", "sorted", "tuple", "range", "enumerate", "zip", "isinstance", "bool", "str", "dict", "float"], [("_law_pool", 0), ("_law_masks", 2), ("_law_draw", 2), ("_law_left", 0), ("combination", 0), ("_law_basis", 0), ("_law_is_integer", 0)], CS, true, XS, ["pool"], ["_law_basis", "_law_masks", "_law_pool", "combination", "echelon", "members", "tagged"], [(113, ["k"]), (102, ["row"])]⟩
end Pf

set_option Elab.async false
set_option linter.all false
set_option maxRecDepth 100000
set_option maxHeartbeats 2000000
/-! PyS: rules to run the interpreter by, at a state. -/
namespace Py
open PySem PySem.Spec PyProof.Rows L2
def bindK {α β : Type} : Option (Out α) → (α → M β) → Option (Out β)
  | some (.ok a A), f => f a A
  | some (.ex C A), _ => some (.ex C A)
  | none, _ => none
def noxK {α : Type} : Option (Out α) → Option (Out α)
  | some (.ok a A) => some (.ok a A)
  | _ => none
def thenK {α : Type} : Option (Out α) → (α → F) → Option Fl
  | some (.ok a A), f => f a A
  | some (.ex C A), _ => some (.ex C A)
  | none, _ => none
def seqK : Option Fl → F → Option Fl
  | some (.nx A), g => g A
  | o, _ => o
def varK (A : AS) : Option SV → Option (Out SV)
  | some (.dat d) => some (.ok (.dat d) A)
  | some (.own k) => some (.ok (.own k) A)
  | _ => none
def ofK {α : Type} (A : AS) : Option α → Option (Out α)
  | some a => some (.ok a A)
  | none => none
def toDK (r k : Nat) (A : AS) : Option ON → Option (Out PyData)
  | some (.lst ds) => if r ≤ k then some (.ok (.list ds) (frzA k (.list ds) A)) else none
  | _ => none
def lstK (k : Nat) (A : AS) : Option ON → Option (Out Nat)
  | some (.lst _) => some (.ok k A)
  | _ => none
section
variable {Γ : Gm} {A A1 : AS} {α β : Type}
theorem bindK_ok {a : α} {f : α → M β} : bindK (some (.ok a A)) f = f a A := rfl
theorem bindK_ex {C : Str} {f : α → M β} : bindK (some (.ex C A)) f = some (.ex C A) := rfl
theorem bindK_no {f : α → M β} : bindK none f = none := rfl
theorem noxK_ok {a : α} : noxK (some (.ok a A)) = some (.ok a A) := rfl
theorem thenK_ok {a : α} {f : α → F} : thenK (some (.ok a A)) f = f a A := rfl
theorem thenK_ex {C : Str} {f : α → F} : thenK (some (.ex C A)) f = some (.ex C A) := rfl
theorem seqK_nx {g : F} : seqK (some (.nx A)) g = g A := rfl
theorem seqK_rt {g : F} {v : SV} : seqK (some (.rt v A)) g = some (.rt v A) := rfl
theorem seqK_bk {g : F} : seqK (some (.bk A)) g = some (.bk A) := rfl
theorem seqK_ct {g : F} : seqK (some (.ct A)) g = some (.ct A) := rfl
theorem seqK_ex {g : F} {C : Str} : seqK (some (.ex C A)) g = some (.ex C A) := rfl
theorem varK_dat {d : PyData} : varK A (some (.dat d)) = some (.ok (.dat d) A) := rfl
theorem varK_own {k : Nat} : varK A (some (.own k)) = some (.ok (.own k) A) := rfl
theorem ofK_some {a : α} : ofK A (some a) = some (.ok a A) := rfl
theorem ofK_none : ofK (α := α) A none = none := rfl
theorem toDK_lst {r k : Nat} {ds : List PyData} : toDK r k A (some (.lst ds)) = if r ≤ k then some (.ok (.list ds) (frzA k (.list ds) A)) else none := rfl
theorem lstK_lst {k : Nat} {ds : List PyData} : lstK k A (some (.lst ds)) = some (.ok k A) := rfl
theorem bind_ap (m : M α) (f : α → M β) : M.bind m f A = bindK (m A) f := by
  unfold M.bind
  cases m A with
  | none => rfl
  | some o => cases o <;> rfl
theorem nox_ap (m : M α) : M.nox m A = noxK (m A) := by
  unfold M.nox
  cases m A with
  | none => rfl
  | some o => cases o <;> rfl
theorem then_ap (m : M α) (f : α → F) : M.then m f A = thenK (m A) f := by
  unfold M.then
  cases m A with
  | none => rfl
  | some o => cases o <;> rfl
theorem seq_ap (a b : F) : F.seq a b A = seqK (a A) b := by
  unfold F.seq
  cases a A with
  | none => rfl
  | some o => cases o <;> rfl
theorem ret_ap (a : α) : M.ret a A = some (.ok a A) := rfl
theorem of_ap (o : Option α) : M.of o A = ofK A o := by cases o <;> rfl
theorem view_ap (s : SV) : view s A = ofK A (viewOf A.μ s) := by unfold view; cases viewOf A.μ s <;> rfl
theorem toD_dat {r : Nat} {d : PyData} : toD r (.dat d) A = some (.ok d A) := rfl
theorem toD_own {r k : Nat} : toD r (.own k) A = toDK r k A A.μ[k]? := by
  unfold toD
  dsimp only
  cases A.μ[k]? with
  | none => rfl
  | some n => cases n <;> rfl
theorem toDs_nil {r : Nat} : toDs r [] A = some (Out.ok [] A) := rfl
theorem toDs_cons {r : Nat} {s : SV} {ss : List SV} : toDs r (s :: ss) A = bindK (toD r s A) fun d => (toDs r ss).bind fun ds => M.ret (d :: ds) := bind_ap ..
theorem views_nil : views [] A = some (Out.ok [] A) := rfl
theorem views_cons {s : SV} {ss : List SV} : views (s :: ss) A = bindK (view s A) fun d => (views ss).bind fun ds => M.ret (d :: ds) := bind_ap ..
theorem tru_ap {s : SV} : truM s A = bindK (view s A) fun d => M.of (truD d) := bind_ap ..
theorem lstAt_own {k : Nat} : lstAt (.own k) A = lstK k A A.μ[k]? := by
  unfold lstAt
  dsimp only
  cases A.μ[k]? with
  | none => rfl
  | some n => cases n <;> rfl
theorem view_dat {μ : List ON} {d : PyData} : viewOf μ (.dat d) = some d := rfl
def viewK : Option ON → Option PyData
  | some (.lst ds) => some (.list ds)
  | _ => none
theorem viewK_lst {ds : List PyData} : viewK (some (.lst ds)) = some (.list ds) := rfl
theorem view_own {μ : List ON} {k : Nat} : viewOf μ (.own k) = viewK μ[k]? := by
  unfold viewOf
  dsimp only
  cases μ[k]? with
  | none => rfl
  | some n => cases n <;> rfl
theorem alloc_own {ds : List PyData} (h : ds.length ≤ 1000000) : alloc true ds A = some (.ok (.own A.μ.length) ⟨A.ρ, A.μ ++ [.lst ds]⟩) := by unfold alloc; rw [if_pos h]; rfl
theorem alloc_dat {ds : List PyData} (h : ds.length ≤ 1000000) : alloc false ds A = some (.ok (.dat (.list ds)) A) := by unfold alloc; rw [if_pos h]; rfl
/-! terms -/
variable {d : PyData} {i : Nat} {op : Operator} {uo : UnaryOp} {co o1 o2 : CmpOp} {a b e t : Tm} {es ifs lo hi : Tms} {fr : Bool} {T : String} {f : Str} {m : Nat} {bf : Bf} {tg : Tg} {it : Itr} {vs : List Nat}
theorem a_dat : ev Γ (.dat d) A = some (.ok (.dat d) A) := rfl
theorem a_var : ev Γ (.var i) A = varK A A.ρ[i]? := by
  show (match A.ρ[i]? with
    | some (.dat d) => some (Out.ok (SV.dat d) A)
    | some (.own k) => some (Out.ok (SV.own k) A)
    | _ => none) = _
  cases A.ρ[i]? with
  | none => rfl
  | some s => cases s <;> rfl
theorem a_bin : ev Γ (.bin op a b) A = bindK (ev Γ a A) fun x => (ev Γ b).bind fun y => (view x).bind fun d => (view y).bind fun e => (M.of (binD op d e)).bind fun r => M.ret (.dat r) := bind_ap ..
theorem a_un : ev Γ (.un uo a) A = bindK (ev Γ a A) fun x => (view x).bind fun d => (M.of (unD uo d)).bind fun r => M.ret (.dat r) := bind_ap ..
theorem a_cmp : ev Γ (.cmp co a b) A = bindK (ev Γ a A) fun x => (ev Γ b).bind fun y => (view x).bind fun d => (view y).bind fun e => (M.of (cmpD co d e)).bind fun r => M.ret (.dat (.bool r)) := bind_ap ..
def chnK (Γ : Gm) (o2 : CmpOp) (e : Tm) (y : SV) : Bool → M SV
  | true => (ev Γ e).nox.bind fun z => (view y).bind fun d2 => (view z).bind fun d3 => (M.of (cmpD o2 d2 d3)).bind fun r => M.ret (.dat (.bool r))
  | false => M.ret (.dat (.bool false))
theorem a_chn : ev Γ (.chn o1 o2 a b e) A = bindK (noxK (ev Γ a A)) fun x => (ev Γ b).nox.bind fun y => (view x).bind fun d1 => (view y).bind fun d2 => (M.of (cmpD o1 d1 d2)).bind fun k => chnK Γ o2 e y k := by
  rw [← nox_ap, ← bind_ap]
  show M.bind (ev Γ a).nox _ A = M.bind (ev Γ a).nox _ A
  rfl
def andK (Γ : Gm) (b : Tm) (x : SV) : Bool → M SV
  | true => ev Γ b
  | false => M.ret x
def orK (Γ : Gm) (b : Tm) (x : SV) : Bool → M SV
  | true => M.ret x
  | false => ev Γ b
theorem a_and : ev Γ (.and a b) A = bindK (ev Γ a A) fun x => (truM x).bind (andK Γ b x) := by
  rw [← bind_ap]
  show M.bind (ev Γ a) _ A = M.bind (ev Γ a) _ A
  rfl
theorem a_or : ev Γ (.or a b) A = bindK (ev Γ a A) fun x => (truM x).bind (orK Γ b x) := by
  rw [← bind_ap]
  show M.bind (ev Γ a) _ A = M.bind (ev Γ a) _ A
  rfl
theorem andK_ap {x : SV} {k : Bool} : andK Γ b x k A = if k = true then ev Γ b A else (some (Out.ok x A) : Option (Out SV)) := by cases k <;> rfl
theorem orK_ap {x : SV} {k : Bool} : orK Γ b x k A = if k = true then (some (Out.ok x A) : Option (Out SV)) else ev Γ b A := by cases k <;> rfl
theorem chnK_ap {y : SV} {k : Bool} : chnK Γ o2 e y k A = if k = true then ((ev Γ e).nox.bind fun z => (view y).bind fun d2 => (view z).bind fun d3 => (M.of (cmpD o2 d2 d3)).bind fun r => M.ret (.dat (.bool r))) A else (some (Out.ok (SV.dat (.bool false)) A) : Option (Out SV)) := by cases k <;> rfl
theorem a_not : ev Γ (.not a) A = bindK (((ev Γ a).bind truM) A) fun k => M.ret (.dat (.bool (!k))) := bind_ap ..
def iteK (Γ : Gm) (a b : Tm) : Bool → M SV
  | true => ev Γ a
  | false => ev Γ b
theorem iteK_ap {k : Bool} : iteK Γ a b k A = if k = true then ev Γ a A else ev Γ b A := by cases k <;> rfl
theorem a_ite : ev Γ (.ite t a b) A = bindK (((ev Γ t).bind truM) A) (iteK Γ a b) := by
  rw [← bind_ap]
  show M.bind ((ev Γ t).bind truM) _ A = M.bind ((ev Γ t).bind truM) _ A
  rfl
theorem a_tup : ev Γ (.tup es) A = bindK (evs Γ es A) fun ss => (toDs Γ.r ss).bind fun ds => fun A => if ds.length ≤ 1000000 then some (.ok (.dat (.tuple ds)) A) else none := bind_ap ..
theorem a_lst : ev Γ (.lst fr es) A = bindK (evs Γ es A) fun ss => (toDs Γ.r ss).bind fun ds => alloc fr ds := bind_ap ..
theorem a_idx : ev Γ (.idx a b) A = bindK (ev Γ a A) fun x => (ev Γ b).bind fun y => (view x).bind fun d => (view y).bind fun e => (M.of (ixD d e)).bind fun r => M.ret (.dat r) := bind_ap ..
theorem a_cat : ev Γ (.cat fr a b) A = bindK (noxK (ev Γ a A)) fun x => (ev Γ b).nox.bind fun y => catF fr x y := by rw [← nox_ap, ← bind_ap]; rfl
theorem a_rep : ev Γ (.rep fr a b) A = bindK (noxK (ev Γ a A)) fun x => (ev Γ b).nox.bind fun y => (view y).bind fun d => repF fr x d := by rw [← nox_ap, ← bind_ap]; rfl
theorem a_slc : ev Γ (.slc a lo hi) A = bindK (noxK (ev Γ a A)) fun x => (evO Γ lo).nox.bind fun l => (evO Γ hi).nox.bind fun h => (view x).bind fun d => (M.of (slD d l h)).bind fun r => M.ret (.dat r) := by rw [← nox_ap, ← bind_ap]; rfl
theorem a_isi : ev Γ (.isi a T) A = bindK (noxK (ev Γ a A)) fun x => (view x).bind fun d => (M.of (tyD d)).bind fun S => (M.of (kitB S T)).bind fun k => M.ret (.dat (.bool k)) := by rw [← nox_ap, ← bind_ap]; rfl
def blenK : PyData → M SV
  | .int i => M.ret (.dat (.int (Builtin.Int.intBits i : Nat)))
  | _ => fun _ => none
theorem blenK_int {i : Int} : blenK (.int i) A = some (.ok (.dat (.int (Builtin.Int.intBits i : Nat))) A) := rfl
theorem a_blen : ev Γ (.blen a) A = bindK (noxK (ev Γ a A)) fun x => (view x).bind blenK := by
  rw [← nox_ap, ← bind_ap]
  show M.bind (ev Γ a).nox _ A = M.bind (ev Γ a).nox _ A
  rfl
def sortrK (fr : Bool) : PyData → M SV
  | .list l => (M.of (intsD l)).bind fun is => alloc fr ((sortI is).reverse.map .int)
  | _ => fun _ => none
theorem sortrK_list {l : List PyData} : sortrK fr (.list l) A = bindK (ofK A (intsD l)) fun is => alloc fr ((sortI is).reverse.map .int) := by rw [← of_ap, ← bind_ap]; rfl
theorem a_sortr : ev Γ (.sortr fr a) A = bindK (noxK (ev Γ a A)) fun x => (view x).bind (sortrK fr) := by
  rw [← nox_ap, ← bind_ap]
  show M.bind (ev Γ a).nox _ A = M.bind (ev Γ a).nox _ A
  rfl
theorem a_call : ev Γ (.call f m fr es) A = bindK (evs Γ es A) fun ss => callF Γ f m fr ss := bind_ap ..
def biK (fr : Bool) (bf : Bf) (ds : List PyData) : Option PyData → M SV
  | some d => if fr = true then fun _ => none else M.ret (.dat d)
  | none => match biL bf ds with
    | some l => alloc fr l
    | none => match biT bf ds with
      | some l => M.ret (.dat (.tuple l))
      | none => fun _ => none
theorem biK_some {ds : List PyData} {d : PyData} : biK false bf ds (some d) A = some (.ok (.dat d) A) := rfl
theorem a_bi : ev Γ (.bi bf fr es) A = bindK (evs Γ es A) fun ss => (views ss).bind fun ds => biK fr bf ds (biF bf ds) := by
  rw [← bind_ap]
  show M.bind (evs Γ es) _ A = M.bind (evs Γ es) _ A
  rfl
theorem a_isx {C D : Str} {k : Bool} (h : A.ρ[i]? = some (.exc D)) (hs : Γ.sub D C = some k) : ev Γ (.isx i C) A = some (.ok (.dat (.bool k)) A) := by
  show (match A.ρ[i]? with
    | some (.exc D) => match Γ.sub D C with
      | some b => some (Out.ok (SV.dat (.bool b)) A)
      | none => none
    | _ => none) = _
  rw [h]; dsimp only; rw [hs]
def comK (fr : Bool) : Option (Out (List PyData)) → Option (Out SV)
  | some (.ok acc A) => alloc fr acc A
  | _ => none
theorem comK_ok {acc : List PyData} : comK fr (some (.ok acc A)) = alloc fr acc A := rfl
theorem a_com : ev Γ (.com fr e tg it ifs vs) A = bindK (noxK (evI Γ it A)) fun ds => fun A => if 1000000 < ds.length then none else comK fr (comGo tg vs (evTs Γ ifs) (ev Γ e) Γ.r ds [] ⟨wipeV A.ρ vs, A.μ⟩) := by
  rw [← nox_ap, ← bind_ap]
  show M.bind (evI Γ it).nox _ A = M.bind (evI Γ it).nox _ A
  rfl
theorem es_nil : evs Γ .nil A = some (.ok [] A) := rfl
theorem es_cons : evs Γ (.cons e es) A = bindK (ev Γ e A) fun x => (evs Γ es).bind fun xs => M.ret (x :: xs) := bind_ap ..
theorem ts_nil : evTs Γ .nil A = some (.ok true A) := rfl
theorem ts_one : evTs Γ (.cons e .nil) A = bindK (ev Γ e A) truM := bind_ap ..
theorem i_seq : evI Γ (.seq e) A = bindK (ev Γ e A) fun x => (toD Γ.r x).bind fun d => M.of (seqD d) := bind_ap ..
theorem i_enu : evI Γ (.enu e) A = bindK (noxK (ev Γ e A)) fun x => (toD Γ.r x).bind fun d => match d with
    | .list ds => M.ret (enumD ds)
    | _ => fun _ => none := by rw [← nox_ap, ← bind_ap]; rfl
def rngK : PyData → M (List PyData)
  | .int n => fun A => if n ≤ 1000000 ∧ -1000000 ≤ n then some (.ok (rngD 0 n.toNat) A) else none
  | _ => fun _ => none
theorem i_rng : evI Γ (.rng e) A = bindK (noxK (ev Γ e A)) fun x => (view x).bind rngK := by
  rw [← nox_ap, ← bind_ap]
  show M.bind (ev Γ e).nox _ A = M.bind (ev Γ e).nox _ A
  rfl
theorem rngK_int {n : Int} (h : n ≤ 1000000 ∧ -1000000 ≤ n) : rngK (.int n) A = some (.ok (rngD 0 n.toNat) A) := if_pos h
/-! statements -/
variable {s : Sm} {ss u v : List Sm} {ws : List Nat} {j : Nat}
theorem b_nil : exB Γ [] A = some (.nx A) := rfl
theorem b_cons : exB Γ (s :: ss) A = seqK (exS Γ s A) (exB Γ ss) := seq_ap ..
theorem s_asg : exS Γ (.asg i e) A = thenK (ev Γ e A) fun s => putV i s := then_ap ..
theorem put_ap {s : SV} : putV i s A = some (.nx ⟨A.ρ.set i s, A.μ⟩) := rfl
theorem s_ret : exS Γ (.ret e) A = thenK (ev Γ e A) fun s => fun A => some (.rt s A) := then_ap ..
def ifK (Γ : Gm) (u v : List Sm) : Bool → F
  | true => exB Γ u
  | false => exB Γ v
theorem ifK_ap {k : Bool} : ifK Γ u v k A = if k = true then exB Γ u A else exB Γ v A := by cases k <;> rfl
theorem s_ite : exS Γ (.ite t u v) A = thenK (((ev Γ t).bind truM) A) (ifK Γ u v) := by
  rw [← then_ap]
  show M.then ((ev Γ t).bind truM) _ A = M.then ((ev Γ t).bind truM) _ A
  rfl
theorem s_for : exS Γ (.for_ tg it u ws) A = thenK (evI Γ it A) fun ds => fun A => forGo tg ws (exB Γ u) ds ⟨wipeV A.ρ ws, A.μ⟩ := then_ap ..
theorem s_while : exS Γ (.while_ t u ws) A = whGo ((ev Γ t).bind truM) ws (exB Γ u) 1000000 A := rfl
theorem s_gc : exS Γ .gc A = some (.nx (gcA Γ.r A)) := rfl
theorem s_raise {C : Str} : exS Γ (.raise C) A = some (.ex C A) := rfl
theorem s_pass : exS Γ .pass A = some (.nx A) := rfl
theorem s_app : exS Γ (.app a e) A = thenK (ev Γ a A) fun o => (lstAt o).then fun k => (ev Γ e).then fun s => (toD Γ.r s).then fun x => fun A => match A.μ[k]? with
    | some (.lst ds) => if ds.length < 100000 then some (.nx ⟨A.ρ, A.μ.set k (.lst (ds ++ [x]))⟩) else none
    | _ => none := then_ap ..
def augK (Γ : Gm) (i : Nat) (op : Operator) (e : Tm) (A : AS) : Option SV → Option Fl
  | some (.dat d) => ((ev Γ e).then fun s => (view s).then fun d2 => (M.of (binD op d d2)).then fun r => putV i (.dat r)) A
  | _ => none
theorem s_aug : exS Γ (.aug i op e) A = augK Γ i op e A A.ρ[i]? := by
  show (match A.ρ[i]? with
    | some (.dat d) => ((ev Γ e).then fun s => (view s).then fun d2 => (M.of (binD op d d2)).then fun r => putV i (.dat r)) A
    | _ => none) = _
  cases A.ρ[i]? with
  | none => rfl
  | some s => cases s <;> rfl
theorem augK_dat : augK Γ i op e A (some (.dat d)) = thenK (ev Γ e A) fun s => (view s).then fun d2 => (M.of (binD op d d2)).then fun r => putV i (.dat r) := then_ap ..
def setK (k : Nat) (j : Int) (x : PyData) (A : AS) : Option ON → Option Fl
  | some (.lst ds) => match ixN ds.length j with
    | some n => some (.nx ⟨A.ρ, A.μ.set k (.lst (ds.set n x))⟩)
    | none => none
  | _ => none
def asgK (x : PyData) : SV → PyData → F
  | .own k, .int j => fun A => setK k j x A A.μ[k]?
  | _, _ => fun _ => none
theorem asgK_own {x : PyData} {k : Nat} {j : Int} : asgK x (.own k) (.int j) A = setK k j x A A.μ[k]? := rfl
theorem s_asgI : exS Γ (.asgI a b e) A = thenK (ev Γ e A) fun s => (toD Γ.r s).then fun x => (ev Γ a).then fun o => (ev Γ b).then fun i => (view i).then fun d => asgK x o d := by
  rw [← then_ap]
  show M.then (ev Γ e) _ A = M.then (ev Γ e) _ A
  rfl
end
end Py

set_option Elab.async false
set_option linter.all false
set_option maxRecDepth 100000
set_option maxHeartbeats 2000000
namespace Eng
/-! ### bases of masks: each highest bit in no other mask -/
def lead (b : Nat) : Nat := b.log2
theorem ld_bit {b : Nat} (h : b ≠ 0) : b.testBit (lead b) = true := Nat.testBit_log2 h
theorem ld_lt {b : Nat} (h : b ≠ 0) : b < 2 ^ (lead b + 1) := Nat.lt_log2_self
theorem bit_le_ld {b t : Nat} (h : b.testBit t = true) : t ≤ lead b := by
  have h0 : b ≠ 0 := fun z => by rw [z, Nat.zero_testBit] at h; cases h
  refine Nat.le_of_not_lt fun hlt => ?_
  have : b < 2 ^ t := Nat.lt_of_lt_of_le (ld_lt h0) (Nat.pow_le_pow_right (by decide) hlt)
  rw [Nat.testBit_lt_two_pow this] at h
  cases h
/-- the greater of two masks by their first unlike bit -/
theorem lt_by_bit {a b t : Nat} (ha : a.testBit t = false) (hb : b.testBit t = true) (h : ∀ j, t < j → a.testBit j = b.testBit j) : a < b := by
  have e : a / 2 ^ (t + 1) = b / 2 ^ (t + 1) := by
    apply Nat.eq_of_testBit_eq
    intro i
    rw [Nat.testBit_div_two_pow, Nat.testBit_div_two_pow]
    exact h _ (by omega)
  rw [Nat.testBit_eq_decide_div_mod_eq] at ha hb
  have ha := of_decide_eq_false ha
  have hb := of_decide_eq_true hb
  rw [Nat.pow_succ, ← Nat.div_div_eq_div_mul, ← Nat.div_div_eq_div_mul] at e
  have h1 : a / 2 ^ t < b / 2 ^ t := by omega
  exact Nat.lt_of_div_lt_div h1
theorem xor_lt_of {m r : Nat} (hr : r ≠ 0) (hm : m.testBit (lead r) = true) : m ^^^ r < m := by
  refine lt_by_bit (t := lead r) ?_ hm fun j hj => ?_
  · rw [Nat.testBit_xor, hm, ld_bit hr]; rfl
  · have : r.testBit j = false := by
      cases hb : r.testBit j with
      | false => rfl
      | true => exact absurd (bit_le_ld hb) (by omega)
    rw [Nat.testBit_xor, this, Bool.xor_false]
theorem lt_xor_of {m r : Nat} (hr : r ≠ 0) (hm : m.testBit (lead r) = false) : m < m ^^^ r := by
  refine lt_by_bit (t := lead r) hm ?_ fun j hj => ?_
  · rw [Nat.testBit_xor, hm, ld_bit hr]; rfl
  · have : r.testBit j = false := by
      cases hb : r.testBit j with
      | false => rfl
      | true => exact absurd (bit_le_ld hb) (by omega)
    rw [Nat.testBit_xor, this, Bool.xor_false]
/-- one step of a reduction -/
def rstep (m r : Nat) : Nat := min m (m ^^^ r)
theorem rstep_eq {m r : Nat} (hr : r ≠ 0) : rstep m r = if m.testBit (lead r) then m ^^^ r else m := by
  unfold rstep
  cases hm : m.testBit (lead r) with
  | true => rw [if_pos rfl]; exact Nat.min_eq_right (Nat.le_of_lt (xor_lt_of hr hm))
  | false => rw [if_neg Bool.false_ne_true]; exact Nat.min_eq_left (Nat.le_of_lt (lt_xor_of hr hm))
def red (B : List Nat) (m : Nat) : Nat := B.foldl rstep m
theorem red_cons (b : Nat) (B : List Nat) (m : Nat) : red (b :: B) m = red B (rstep m b) := rfl
theorem red_snoc (b : Nat) (B : List Nat) (m : Nat) : red (B ++ [b]) m = rstep (red B m) b := by unfold red; rw [List.foldl_append]; rfl
/-- two masks of a basis -/
def Rr (a b : Nat) : Prop := b.testBit (lead a) = false ∧ a.testBit (lead b) = false
theorem Rr.symm {a b : Nat} (h : Rr a b) : Rr b a := ⟨h.2, h.1⟩
structure Bas (B : List Nat) : Prop where
  nz : ∀ b ∈ B, b ≠ 0
  pw : B.Pairwise Rr
theorem Bas.perm {B C : List Nat} (h : Bas B) (p : C.Perm B) : Bas C := ⟨fun b hb => h.nz b (p.mem_iff.mp hb), (List.Perm.pairwise_iff (fun h => Rr.symm h) p).mpr h.pw⟩
theorem Bas.cons {b : Nat} {B : List Nat} (h : Bas (b :: B)) : b ≠ 0 ∧ (∀ c ∈ B, Rr b c) ∧ Bas B := ⟨h.nz b (List.mem_cons_self ..), (List.pairwise_cons.mp h.pw).1, fun c hc => h.nz c (List.mem_cons_of_mem _ hc), (List.pairwise_cons.mp h.pw).2⟩
theorem Bas.two : ∀ {B : List Nat}, Bas B → ∀ {a b : Nat}, a ∈ B → b ∈ B → a ≠ b → Rr a b
  | [], _, _, _, ha, _, _ => by cases ha
  | c :: B, h, a, b, ha, hb, ne => by
    obtain ⟨_, h2, h3⟩ := h.cons
    rcases List.mem_cons.mp ha with e1 | h4
    · rcases List.mem_cons.mp hb with e2 | h5
      · exact absurd (e1.trans e2.symm) ne
      · exact e1 ▸ h2 b h5
    · rcases List.mem_cons.mp hb with e2 | h5
      · exact e2 ▸ (h2 a h4).symm
      · exact Bas.two h3 h4 h5 ne
theorem rstep_bit {m r k : Nat} (hr : r ≠ 0) (hk : r.testBit k = false) : (rstep m r).testBit k = m.testBit k := by
  rw [rstep_eq hr]
  split
  · rw [Nat.testBit_xor, hk, Bool.xor_false]
  · rfl
theorem rstep_lead {m r : Nat} (hr : r ≠ 0) : (rstep m r).testBit (lead r) = false := by
  rw [rstep_eq hr]
  split
  · rename_i h
    rw [Nat.testBit_xor, h, ld_bit hr]; rfl
  · rename_i h
    exact Bool.eq_false_iff.mpr h
theorem red_keep {k : Nat} : ∀ {B : List Nat} {m : Nat}, (∀ b ∈ B, b ≠ 0) → (∀ b ∈ B, b.testBit k = false) → (red B m).testBit k = m.testBit k
  | [], _, _, _ => rfl
  | b :: B, m, hz, hk => by
    rw [red_cons, red_keep (fun c hc => hz c (List.mem_cons_of_mem _ hc)) (fun c hc => hk c (List.mem_cons_of_mem _ hc)), rstep_bit (hz b (List.mem_cons_self ..)) (hk b (List.mem_cons_self ..))]
theorem red_lead : ∀ {B : List Nat} {m : Nat}, Bas B → ∀ b ∈ B, (red B m).testBit (lead b) = false
  | [], _, _, b, hb => by cases hb
  | c :: B, m, h, b, hb => by
    obtain ⟨h1, h2, h3⟩ := h.cons
    rw [red_cons]
    rcases List.mem_cons.mp hb with rfl | hb
    · rw [red_keep h3.nz (fun d hd => (h2 d hd).1), rstep_lead h1]
    · exact red_lead h3 b hb
theorem rstep_comm {a b m : Nat} (ha : a ≠ 0) (hb : b ≠ 0) (h : Rr a b) : rstep (rstep m a) b = rstep (rstep m b) a := by
  have e1 : (rstep m a).testBit (lead b) = m.testBit (lead b) := rstep_bit ha h.2
  have e2 : (rstep m b).testBit (lead a) = m.testBit (lead a) := rstep_bit hb h.1
  rw [rstep_eq (m := rstep m a) hb, rstep_eq (m := rstep m b) ha, e1, e2, rstep_eq ha, rstep_eq hb]
  cases m.testBit (lead a) <;> cases m.testBit (lead b) <;> simp
  rw [Nat.xor_assoc, Nat.xor_comm a b, ← Nat.xor_assoc]
theorem red_perm {B C : List Nat} {m : Nat} (h : Bas B) (p : C.Perm B) : red C m = red B m := by
  have hc := h.perm p
  refine p.foldl_eq' (fun x hx y hy z => ?_) m
  by_cases e : x = y
  · subst e; rfl
  · exact rstep_comm (hc.nz x hx) (hc.nz y hy) (hc.two hx hy e)
/-- a row is taken out of a mask -/
def elim (r m : Nat) : Nat := if m.testBit (lead r) then m ^^^ r else m
theorem elim_bit {r m k : Nat} (hk : r.testBit k = false) : (elim r m).testBit k = m.testBit k := by
  unfold elim
  split
  · rw [Nat.testBit_xor, hk, Bool.xor_false]
  · rfl
theorem elim_lead {r m : Nat} (hr : r ≠ 0) : (elim r m).testBit (lead r) = false := by
  rw [← show rstep m r = elim r m from rstep_eq hr]
  exact rstep_lead hr
theorem ld_of {m t : Nat} (h : m.testBit t = true) (hh : ∀ j, t < j → m.testBit j = false) : lead m = t := by
  have h0 : m ≠ 0 := fun z => by rw [z, Nat.zero_testBit] at h; cases h
  have h1 := bit_le_ld h
  by_cases e : lead m = t
  · exact e
  · have := hh (lead m) (by omega)
    rw [ld_bit h0] at this
    cases this
theorem elim_ld {r m : Nat} (hm : m ≠ 0) (h : r.testBit (lead m) = false) : elim r m ≠ 0 ∧ lead (elim r m) = lead m := by
  have hb : (elim r m).testBit (lead m) = true := by rw [elim_bit h]; exact ld_bit hm
  have hz : elim r m ≠ 0 := fun z => by
    rw [z, Nat.zero_testBit] at hb
    cases hb
  refine ⟨hz, ld_of hb fun j hj => ?_⟩
  have hmj : m.testBit j = false := by
    cases q : m.testBit j with
    | false => rfl
    | true => exact absurd (bit_le_ld q) (by omega)
  unfold elim
  split
  · rename_i ht
    have hle := bit_le_ld ht
    have hr0 : r.testBit j = false := by
      cases q : r.testBit j with
      | false => rfl
      | true => exact absurd (bit_le_ld q) (by omega)
    rw [Nat.testBit_xor, hmj, hr0]; rfl
  · exact hmj
theorem bas_map {B : List Nat} {r : Nat} (h : Bas B) (hr : r ≠ 0) (hl : ∀ b ∈ B, r.testBit (lead b) = false) : Bas (B.map (elim r) ++ [r]) where
  nz := fun b hb => by
    rcases List.mem_append.mp hb with hb | hb
    · obtain ⟨c, hc, rfl⟩ := List.mem_map.mp hb
      exact (elim_ld (h.nz c hc) (hl c hc)).1
    · rw [List.mem_singleton.mp hb]; exact hr
  pw := by
    rw [List.pairwise_append]
    refine ⟨?_, List.pairwise_singleton _ _, fun a ha b hb => ?_⟩
    · rw [List.pairwise_map]
      refine h.pw.imp_of_mem fun {a b} ha hb hab => ?_
      refine ⟨?_, ?_⟩
      · rw [(elim_ld (h.nz a ha) (hl a ha)).2, elim_bit (hl a ha)]; exact hab.1
      · rw [(elim_ld (h.nz b hb) (hl b hb)).2, elim_bit (hl b hb)]; exact hab.2
    · obtain ⟨c, hc, rfl⟩ := List.mem_map.mp ha
      rw [List.mem_singleton.mp hb]
      refine ⟨?_, elim_lead hr⟩
      rw [(elim_ld (h.nz c hc) (hl c hc)).2]
      exact hl c hc
def ext (B : List Nat) (row : Nat) : List Nat := if red B row = 0 then B else B.map (elim (red B row)) ++ [red B row]
theorem bas_ext {B : List Nat} (h : Bas B) (row : Nat) : Bas (ext B row) := by
  unfold ext
  split
  · exact h
  · rename_i hr
    exact bas_map h hr fun b hb => red_lead h b hb
theorem ext_perm {B C : List Nat} (h : Bas B) (p : C.Perm B) (row : Nat) : (ext C row).Perm (ext B row) := by
  unfold ext
  rw [red_perm h p]
  split
  · exact p
  · exact List.Perm.append_right _ (p.map _)
def PB (rows : List Nat) : List Nat := rows.foldl ext []
theorem PB_snoc (rows : List Nat) (r : Nat) : PB (rows ++ [r]) = ext (PB rows) r := by unfold PB; rw [List.foldl_append]; rfl
theorem bas_nil : Bas [] := ⟨fun b hb => (by cases hb), List.Pairwise.nil⟩
theorem bas_fold : ∀ (rows B : List Nat), Bas B → Bas (rows.foldl ext B)
  | [], B, h => h
  | r :: rows, B, h => bas_fold rows (ext B r) (bas_ext h r)
theorem bas_PB (rows : List Nat) : Bas (PB rows) := bas_fold rows [] bas_nil
theorem ext_len (B : List Nat) (r : Nat) : (ext B r).length ≤ B.length + 1 := by
  unfold ext
  split
  · omega
  · rw [List.length_append, List.length_map]; exact Nat.le_refl _
theorem PB_len (rows : List Nat) : (PB rows).length ≤ rows.length := by
  have go : ∀ (rows B : List Nat), (rows.foldl ext B).length ≤ B.length + rows.length := fun rows => by
    induction rows with
    | nil => intro B; exact Nat.le_refl _
    | cons r rows ih =>
      intro B
      have h1 := ih (ext B r)
      have h2 := ext_len B r
      rw [List.foldl_cons, List.length_cons]
      omega
  have := go rows []
  rw [List.length_nil, Nat.zero_add] at this
  exact this
/-- two descending lists of the same masks -/
theorem desc_eq {B C : List Nat} (p : B.Perm C) (h1 : B.Pairwise (· ≥ ·)) (h2 : C.Pairwise (· ≥ ·)) : B = C :=
  p.eq_of_pairwise (fun a b _ _ x y => Nat.le_antisymm y x) h1 h2
/-- ints that are a rearrangement of masks are masks -/
theorem nats_of {ns : List Int} {B : List Nat} (p : ns.Perm (B.map fun (b : Nat) => (b : Int))) (h : ns.Pairwise (· ≥ ·)) : ∃ C : List Nat, ns = C.map (fun (b : Nat) => (b : Int)) ∧ C.Perm B ∧ C.Pairwise (· ≥ ·) := by
  have hz : ∀ n ∈ ns, ((n.toNat : Nat) : Int) = n := fun n hn => by
    obtain ⟨b, _, rfl⟩ := List.mem_map.mp (p.mem_iff.mp hn)
    exact congrArg _ (Int.toNat_natCast b)
  have e : ns = (ns.map Int.toNat).map (fun (b : Nat) => (b : Int)) := by
    rw [List.map_map]
    conv => lhs; rw [← List.map_id ns]
    exact List.map_congr_left fun n hn => (hz n hn).symm
  refine ⟨ns.map Int.toNat, e, ?_, ?_⟩
  · have := p.map Int.toNat
    rw [List.map_map, show (Int.toNat ∘ fun (b : Nat) => (b : Int)) = id from funext fun b => Int.toNat_natCast b, List.map_id] at this
    exact this
  · rw [List.pairwise_map]
    exact h.imp fun hab => Int.toNat_le_toNat hab
theorem filt_one {B : List Nat} (h : Bas B) {k : Nat} {b : Nat} (hb : B[k]? = some b) : (B.filter fun c => c.testBit (lead b)) = [b] := by
  have go : ∀ (B : List Nat) (k : Nat), Bas B → B[k]? = some b → (B.filter fun c => c.testBit (lead b)) = [b] := fun B => by
    induction B with
    | nil => intro k _ hb; simp at hb
    | cons c B ih =>
      intro k h hb
      obtain ⟨h1, h2, h3⟩ := h.cons
      cases k with
      | zero =>
        have e : c = b := by simpa using hb
        subst e
        rw [List.filter_cons_of_pos (p := fun (d : Nat) => d.testBit (lead c)) (ld_bit h1)]
        congr 1
        rw [List.filter_eq_nil_iff]
        intro d hd
        rw [(h2 d hd).1]
        exact Bool.false_ne_true
      | succ k =>
        have hb2 : B[k]? = some b := by simpa using hb
        rw [List.filter_cons_of_neg (p := fun (d : Nat) => d.testBit (lead b)) (by rw [(h2 b (List.mem_of_getElem? hb2)).2]; exact Bool.false_ne_true)]
        exact ih k h3 hb2
  exact go B k h hb
theorem desc_step {B : List Nat} (h : Bas B) (hd : B.Pairwise (· ≥ ·)) {k a b : Nat} (ha : B[k]? = some a) (hb : B[k + 1]? = some b) : b < a := by
  have h1 : k + 1 < B.length := (List.getElem?_eq_some_iff.mp hb).1
  have ea := (List.getElem?_eq_some_iff.mp ha).2
  have eb := (List.getElem?_eq_some_iff.mp hb).2
  have h2 := (List.pairwise_iff_getElem.mp hd) k (k + 1) (by omega) h1 (by omega)
  have h3 := (List.pairwise_iff_getElem.mp h.pw) k (k + 1) (by omega) h1 (by omega)
  rw [ea, eb] at h2 h3
  have hz := h.nz a (List.mem_of_getElem? ha)
  refine Nat.lt_of_le_of_ne h2 fun e => ?_
  subst e
  have := h3.1
  rw [ld_bit hz] at this
  cases this
end Eng

set_option Elab.async false
set_option linter.all false
set_option maxRecDepth 100000
set_option maxHeartbeats 4000000
namespace Pf
open PySem PySem.Spec PyProof.Rows L2 Py
open Evl (Ex)
def t_members_1 : Py.Tm := (.var 0)
def b_members_2 : List Sm := [.asg 2 (.bin .BitAnd (.var 0) (.un .USub (.var 0))), .app (.var 1) (.bin .Sub (.blen (.var 2)) (.dat (.int 1))), .aug 0 .BitXor (.var 2), .gc]
def b_members : List Sm := [.asg 1 (.lst true .nil), .while_ t_members_1 b_members_2 [2], .ret (.var 1)]
def b_reduced_1 : List Sm := [.asg 1 (.bi .min false (.cons (.var 1) (.cons (.bin .BitXor (.var 1) (.var 2)) .nil)))]
def b_reduced : List Sm := [.for_ (.nm 2) (.seq (.var 0)) b_reduced_1 [2], .ret (.var 1)]
def t_echelon_1 : Py.Tm := (.ite (.bin .BitAnd (.var 5) (.var 4)) (.bin .BitXor (.var 5) (.var 3)) (.var 5))
def b_echelon_2 : List Sm := [.asg 3 (.call ("reduced" : Str) 1 false (.cons (.var 1) (.cons (.var 2) .nil))), .ite (.var 3) [.asg 4 (.bin .LShift (.dat (.int 1)) (.bin .Sub (.blen (.var 3)) (.dat (.int 1)))), .asg 1 (.com true t_echelon_1 (.nm 5) (.seq (.var 1)) .nil [5]), .app (.var 1) (.var 3)] [], .gc]
def b_echelon : List Sm := [.asg 1 (.lst true .nil), .for_ (.nm 2) (.seq (.var 0)) b_echelon_2 [2, 3, 4, 5], .ret (.sortr true (.var 1))]
def t_tagged_1 : Py.Tm := (.bin .BitOr (.bin .LShift (.var 3) (.var 1)) (.bin .LShift (.dat (.int 1)) (.var 2)))
def b_tagged : List Sm := [.asg 1 (.bi .len false (.cons (.var 0) .nil)), .ret (.com true t_tagged_1 (.tup [2, 3]) (.enu (.var 0)) .nil [2, 3])]
def b_least_combination : List Sm := [.asg 2 (.bi .len false (.cons (.var 0) .nil)), .asg 3 (.call ("reduced" : Str) 0 false (.cons (.call ("echelon" : Str) 0 false (.cons (.call ("tagged" : Str) 0 false (.cons (.var 0) .nil)) .nil)) (.cons (.bin .LShift (.var 1) (.var 2)) .nil))), .ite (.bin .RShift (.var 3) (.var 2)) [.raise ("NoSolution" : Str)] [], .ret (.var 3)]
def b_combination : List Sm := [.ret (.call ("members" : Str) 0 true (.cons (.call ("least_combination" : Str) 0 false (.cons (.var 0) (.cons (.var 1) .nil))) .nil))]
def b__law_is_integer : List Sm := [.ret (.and (.isi (.var 0) "int") (.not (.isi (.var 0) "bool")))]
def b__law_pool_1 : List Sm := [.asg 1 (.bin .Mod (.bi .int false (.cons (.bin .Add (.bin .Mult (.var 1) (.dat (.int 31))) (.var 2)) .nil)) (.dat (.int 1000003)))]
def b__law_pool : List Sm := [.asg 1 (.dat (.int 7)), .for_ (.nm 2) (.seq (.slc (.var 0) .nil (.cons (.dat (.int 63)) .nil))) b__law_pool_1 [2], .ret (.lst true (.cons (.bi .list false (.cons (.var 0) .nil)) (.cons (.dat (.int 0)) (.cons (.dat (.int 0)) (.cons (.dat (.int 0)) (.cons (.var 1) .nil))))))]
def b__law_spread_1 : List Sm := [.asg 1 (.bin .Mod (.bi .int false (.cons (.bin .Add (.bin .Add (.bin .Mult (.var 1) (.dat (.int 48271))) (.dat (.int 12345))) (.var 3)) .nil)) (.dat (.int 2147483647))), .asg 2 (.bin .Add (.bin .Mult (.var 2) (.dat (.int 2147483647))) (.var 1))]
def b__law_spread : List Sm := [.asg 1 (.bin .Mod (.bi .int false (.cons (.var 0) .nil)) (.dat (.int 2147483647))), .asg 2 (.dat (.int 1)), .for_ (.nm 3) (.rng (.dat (.int 4))) b__law_spread_1 [3], .ret (.var 2)]
def b__law_draw : List Sm := [.ite (.and (.cmp .LtE (.idx (.var 0) (.dat (.int 2))) (.dat (.int 0))) (.cmp .Lt (.idx (.var 0) (.dat (.int 1))) (.bi .len false (.cons (.idx (.var 0) (.dat (.int 0))) .nil)))) [.asg 2 (.idx (.idx (.var 0) (.dat (.int 0))) (.idx (.var 0) (.dat (.int 1)))), .asgI (.var 0) (.dat (.int 1)) (.bin .Add (.idx (.var 0) (.dat (.int 1))) (.dat (.int 1))), .asgI (.var 0) (.dat (.int 2)) (.var 2), .ite (.cmp .Lt (.var 2) (.dat (.int 1000000000000000000))) [.asgI (.var 0) (.dat (.int 2)) (.call ("_law_spread" : Str) 0 false (.cons (.var 2) .nil))] []] [], .asgI (.var 0) (.dat (.int 3)) (.bin .Add (.idx (.var 0) (.dat (.int 3))) (.dat (.int 1))), .ite (.cmp .LtE (.idx (.var 0) (.dat (.int 2))) (.dat (.int 0))) [.asg 3 (.bin .Mod (.bi .int false (.cons (.bin .Add (.bin .Add (.bin .Mult (.idx (.var 0) (.dat (.int 4))) (.dat (.int 48271))) (.bin .Mult (.idx (.var 0) (.dat (.int 3))) (.dat (.int 69621)))) (.dat (.int 1))) .nil)) (.dat (.int 2147483647))), .asg 3 (.bin .Mod (.bi .int false (.cons (.bin .Add (.bin .Mult (.var 3) (.dat (.int 16807))) (.idx (.var 0) (.dat (.int 3)))) .nil)) (.dat (.int 2147483629))), .ret (.bin .Mod (.bin .FloorDiv (.var 3) (.dat (.int 5))) (.var 1))] [], .asg 4 (.bin .Mod (.bi .int false (.cons (.idx (.var 0) (.dat (.int 2))) .nil)) (.var 1)), .asgI (.var 0) (.dat (.int 2)) (.bin .FloorDiv (.idx (.var 0) (.dat (.int 2))) (.var 1)), .ret (.var 4)]
def b__law_basis_1 : List Sm := [.asg 2 (.bi .min false (.cons (.var 2) (.cons (.bin .BitXor (.var 2) (.var 3)) .nil))), .gc]
def t__law_basis_2 : Py.Tm := (.ite (.cmp .Eq (.bin .BitAnd (.bin .RShift (.var 3) (.bin .Sub (.blen (.var 2)) (.dat (.int 1)))) (.dat (.int 1))) (.dat (.int 1))) (.bi .min false (.cons (.var 3) (.cons (.bin .BitXor (.var 3) (.var 2)) .nil))) (.var 3))
def b__law_basis_3 : List Sm := [.for_ (.nm 3) (.seq (.var 1)) b__law_basis_1 [3], .ite (.cmp .Gt (.var 2) (.dat (.int 0))) [.asg 1 (.com true t__law_basis_2 (.nm 3) (.seq (.var 1)) .nil [3]), .asg 1 (.sortr true (.cat false (.var 1) (.lst true (.cons (.var 2) .nil))))] [], .gc]
def b__law_basis : List Sm := [.asg 1 (.lst true .nil), .for_ (.nm 2) (.seq (.var 0)) b__law_basis_3 [2, 3], .ret (.var 1)]
def b__law_left_1 : List Sm := [.ite (.cmp .Eq (.bin .BitAnd (.bin .RShift (.var 1) (.bin .Sub (.blen (.var 2)) (.dat (.int 1)))) (.dat (.int 1))) (.dat (.int 1))) [.asg 1 (.bin .BitXor (.var 1) (.var 2))] []]
def b__law_left : List Sm := [.for_ (.nm 2) (.seq (.var 0)) b__law_left_1 [2], .ret (.var 1)]
def b__law_masks_1 : List Sm := [.asg 5 (.call ("_law_draw" : Str) 2 false (.cons (.var 0) (.cons (.dat (.int 6)) .nil))), .ite (.and (.cmp .Eq (.var 5) (.dat (.int 0))) (.cmp .Gt (.bi .len false (.cons (.var 3) .nil)) (.dat (.int 1)))) [.app (.var 3) (.bin .BitXor (.idx (.var 3) (.call ("_law_draw" : Str) 2 false (.cons (.var 0) (.cons (.bi .len false (.cons (.var 3) .nil)) .nil)))) (.idx (.var 3) (.call ("_law_draw" : Str) 2 false (.cons (.var 0) (.cons (.bi .len false (.cons (.var 3) .nil)) .nil)))))] [.ite (.cmp .Eq (.var 5) (.dat (.int 1))) [.app (.var 3) (.bin .LShift (.dat (.int 1)) (.call ("_law_draw" : Str) 2 false (.cons (.var 0) (.cons (.var 2) .nil))))] [.app (.var 3) (.call ("_law_draw" : Str) 2 false (.cons (.var 0) (.cons (.bin .LShift (.dat (.int 1)) (.var 2)) .nil)))]], .gc]
def b__law_masks : List Sm := [.asg 3 (.lst true .nil), .for_ (.nm 4) (.rng (.call ("_law_draw" : Str) 2 false (.cons (.var 0) (.cons (.bin .Add (.var 1) (.dat (.int 1))) .nil)))) b__law_masks_1 [4, 5], .ret (.var 3)]
def b_law_1 : List Sm := [.asg 4 (.bin .BitXor (.var 4) (.bin .Mult (.var 5) (.call ("_law_draw" : Str) 2 false (.cons (.var 1) (.cons (.dat (.int 2)) .nil))))), .gc]
def b_law_2 : List Sm := [.ite (.or (.not (.call ("_law_is_integer" : Str) 0 false (.cons (.idx (.var 8) (.var 11)) .nil))) (.or (.not (.chn .LtE .Lt (.dat (.int 0)) (.idx (.var 8) (.var 11)) (.bi .len false (.cons (.var 3) .nil)))) (.and (.cmp .Gt (.var 11) (.dat (.int 0))) (.cmp .LtE (.idx (.var 8) (.var 11)) (.idx (.var 8) (.bin .Sub (.var 11) (.dat (.int 1)))))))) [.ret (.dat (.bool false))] [], .asg 10 (.bin .BitXor (.var 10) (.idx (.var 3) (.idx (.var 8) (.var 11)))), .gc]
def b_law : List Sm := [.asg 1 (.call ("_law_pool" : Str) 0 true (.cons (.var 0) .nil)), .asg 2 (.idx (.tup (.cons (.dat (.int 3)) (.cons (.dat (.int 6)) (.cons (.dat (.int 12)) (.cons (.dat (.int 60)) .nil))))) (.call ("_law_draw" : Str) 2 false (.cons (.var 1) (.cons (.dat (.int 4)) .nil)))), .asg 3 (.call ("_law_masks" : Str) 2 false (.cons (.var 1) (.cons (.dat (.int 10)) (.cons (.var 2) .nil)))), .asg 4 (.call ("_law_draw" : Str) 2 false (.cons (.var 1) (.cons (.bin .LShift (.dat (.int 1)) (.var 2)) .nil))), .ite (.cmp .Gt (.call ("_law_draw" : Str) 2 false (.cons (.var 1) (.cons (.dat (.int 3)) .nil))) (.dat (.int 0))) [.asg 4 (.dat (.int 0)), .for_ (.nm 5) (.seq (.var 3)) b_law_1 [5]] [], .asg 6 (.bi .list false (.cons (.var 3) .nil)), .asg 7 (.cmp .Eq (.call ("_law_left" : Str) 0 false (.cons (.call ("_law_basis" : Str) 0 false (.cons (.var 3) .nil)) (.cons (.var 4) .nil))) (.dat (.int 0))), .try_ [.asg 8 (.call ("combination" : Str) 0 false (.cons (.var 6) (.cons (.var 4) .nil)))] ("NoSolution" : Str) (some 9) [.ret (.and (.not (.var 7)) (.and (.isx 9 ("BastionError" : Str)) (.not (.isx 9 ("InvalidText" : Str)))))], .ite (.or (.not (.var 7)) (.or (.not (.isi (.var 8) "list")) (.cmp .NotEq (.var 6) (.var 3)))) [.ret (.dat (.bool false))] [], .asg 10 (.dat (.int 0)), .for_ (.nm 11) (.rng (.bi .len false (.cons (.var 8) .nil))) b_law_2 [11], .ret (.cmp .Eq (.var 10) (.var 4))]
theorem cb_members : compB 60 E_members (defBody s_members) = some b_members := by kernel_rfl
theorem cb_reduced : compB 60 E_reduced (defBody s_reduced) = some b_reduced := by kernel_rfl
theorem cb_echelon : compB 60 E_echelon (defBody s_echelon) = some b_echelon := by kernel_rfl
theorem cb_tagged : compB 60 E_tagged (defBody s_tagged) = some b_tagged := by kernel_rfl
theorem cb_least_combination : compB 60 E_least_combination (defBody s_least_combination) = some b_least_combination := by kernel_rfl
theorem cb_combination : compB 60 E_combination (defBody s_combination) = some b_combination := by kernel_rfl
theorem cb__law_is_integer : compB 60 E__law_is_integer (defBody s__law_is_integer) = some b__law_is_integer := by kernel_rfl
theorem cb__law_pool : compB 60 E__law_pool (defBody s__law_pool) = some b__law_pool := by kernel_rfl
theorem cb__law_spread : compB 60 E__law_spread (defBody s__law_spread) = some b__law_spread := by kernel_rfl
theorem cb__law_draw : compB 60 E__law_draw (defBody s__law_draw) = some b__law_draw := by kernel_rfl
theorem cb__law_basis : compB 60 E__law_basis (defBody s__law_basis) = some b__law_basis := by kernel_rfl
theorem cb__law_left : compB 60 E__law_left (defBody s__law_left) = some b__law_left := by kernel_rfl
theorem cb__law_masks : compB 60 E__law_masks (defBody s__law_masks) = some b__law_masks := by kernel_rfl
theorem cb_law : compB 60 E_law (defBody s_law) = some b_law := by kernel_rfl
end Pf

set_option Elab.async false
set_option linter.all false
set_option maxRecDepth 100000
set_option maxHeartbeats 2000000
/-! PyT: numbers, lists of numbers, what is run again and again. -/
namespace Py
open PySem PySem.Spec PyProof.Rows L2
abbrev ni (n : Nat) : PyData := .int (n : Int)
abbrev nl (B : List Nat) : PyData := .list (B.map ni)
theorem xor_c (a b : Nat) : Builtin.bitXor (a : Int) (b : Int) = ((a ^^^ b : Nat) : Int) := Eng.bitXor_cast a b
theorem and_c (a b : Nat) : Builtin.bitAnd (a : Int) (b : Int) = ((a &&& b : Nat) : Int) := Eng.bitAnd_cast a b
theorem or_c (a b : Nat) : Builtin.bitOr (a : Int) (b : Int) = ((a ||| b : Nat) : Int) := Eng.bitOr_cast a b
theorem min_c (i j : Nat) : (if ((j : Nat) : Int) < (i : Int) then (j : Int) else (i : Int)) = ((min i j : Nat) : Int) := by
  by_cases h : j < i
  · rw [if_pos (by exact_mod_cast h), Nat.min_eq_right (by omega)]
  · rw [if_neg (by exact_mod_cast h), Nat.min_eq_left (by omega)]
theorem bd_add {i j : Int} : binD .Add (.int i) (.int j) = some (.int (i + j)) := rfl
theorem bd_sub {i j : Int} : binD .Sub (.int i) (.int j) = some (.int (i - j)) := rfl
theorem bd_and {i j : Int} : binD .BitAnd (.int i) (.int j) = some (.int (Builtin.bitAnd i j)) := rfl
theorem bd_or {i j : Int} : binD .BitOr (.int i) (.int j) = some (.int (Builtin.bitOr i j)) := rfl
theorem bd_xor {i j : Int} : binD .BitXor (.int i) (.int j) = some (.int (Builtin.bitXor i j)) := rfl
theorem ud_neg {i : Int} : unD .USub (.int i) = some (.int (-i)) := rfl
theorem cd_lt {i j : Int} : cmpD .Lt (.int i) (.int j) = some (decide (i < j)) := rfl
theorem cd_le {i j : Int} : cmpD .LtE (.int i) (.int j) = some (decide (i ≤ j)) := rfl
theorem cd_gt {i j : Int} : cmpD .Gt (.int i) (.int j) = some (decide (j < i)) := rfl
theorem cd_ge {i j : Int} : cmpD .GtE (.int i) (.int j) = some (decide (j ≤ i)) := rfl
theorem cd_eq {i j : Int} : cmpD .Eq (.int i) (.int j) = some (decide (i = j)) := rfl
theorem cd_ne {i j : Int} : cmpD .NotEq (.int i) (.int j) = some (!decide (i = j)) := rfl
theorem shl_c {a n : Nat} (h : Builtin.Int.intBits (a : Int) + n ≤ 2 ^ 27) : binD .LShift (.int (a : Int)) (.int (n : Int)) = some (ni (a * 2 ^ n)) := by
  unfold binD
  dsimp only
  rw [if_pos ⟨by omega, by push_cast at h ⊢; omega⟩, Int.toNat_natCast]
  push_cast; rfl
theorem shl1_c {n : Nat} (h : n ≤ 100000) : binD .LShift (.int 1) (.int (n : Int)) = some (ni (2 ^ n)) := by
  have z := shl_c (a := 1) (n := n) (by show Builtin.Int.intBits 1 + n ≤ _; have : Builtin.Int.intBits 1 = 1 := rfl; rw [this]; omega)
  rw [Nat.one_mul] at z; exact z
theorem shr_c {a n : Nat} : binD .RShift (.int (a : Int)) (.int (n : Int)) = some (ni (a / 2 ^ n)) := by
  unfold binD
  dsimp only
  rw [if_pos (by omega), Int.toNat_natCast]
  push_cast; rfl
theorem gc_dat {d : PyData} {μ : List ON} : gcA 0 ⟨[.dat d], μ⟩ = ⟨[.dat d], []⟩ := rfl
theorem gc_dat1 {d : PyData} {ds : List PyData} {μ : List ON} : gcA 1 ⟨[.dat d], .lst ds :: μ⟩ = ⟨[.dat d], [.lst ds]⟩ := rfl
/-! ### comprehensions without tests, item by item -/
theorem com_list {Γ : Gm} {tg : Tg} {vs : List Nat} {elt : M SV} {r : Nat} {ρ : List SV} {μ : List ON} : ∀ {ds outs : List PyData} (acc : List PyData), ds.length = outs.length → (∀ (i : Nat) (d o : PyData), ds[i]? = some d → outs[i]? = some o → ∃ ρ1, tgSet tg d ρ = some ρ1 ∧ elt ⟨ρ1, μ⟩ = some (.ok (.dat o) ⟨ρ1, μ⟩) ∧ wipeV ρ1 vs = ρ) →
    comGo tg vs (evTs Γ .nil) elt r ds acc ⟨ρ, μ⟩ = some (.ok (acc ++ outs) ⟨ρ, μ⟩)
  | [], [], acc, _, _ => by rw [List.append_nil]; rfl
  | d :: ds, o :: outs, acc, hl, h => by
    obtain ⟨ρ1, h1, h2, h3⟩ := h 0 d o rfl rfl
    have ih := com_list (Γ := Γ) (tg := tg) (vs := vs) (elt := elt) (r := r) (ρ := ρ) (μ := μ) (ds := ds) (outs := outs) (acc ++ [o]) (by simpa using hl) (fun i d' o' h4 h5 => h (i + 1) d' o' h4 h5)
    unfold comGo
    dsimp only
    rw [h1]
    dsimp only
    rw [ts_nil]
    dsimp only
    rw [bind_ap, h2, bindK_ok, toD_dat]
    dsimp only
    rw [h3, ih, List.append_assoc]; rfl
  | [], _ :: _, acc, hl, _ => by cases hl
  | _ :: _, [], acc, hl, _ => by cases hl
def Gm.at (Γ : Gm) (r : Nat) : Gm := { Γ with r := r }
theorem at_fn {Γ : Gm} {r : Nat} : (Γ.at r).fn = Γ.fn := rfl
theorem at_r {Γ : Gm} {r : Nat} : (Γ.at r).r = r := rfl
theorem at_sub {Γ : Gm} {r : Nat} : (Γ.at r).sub = Γ.sub := rfl
theorem run_ret {Γ : Gm} {body : List Sm} {n m : Nat} {ss : List SV} {μ μ' : List ON} {sv s : SV} {A : AS} (hl : ss.length = n) (h : exB (Γ.at μ.length) body ⟨ss ++ List.replicate (m - n) .any, μ⟩ = some (.rt sv A)) (hg : gcA μ.length ⟨[sv], A.μ⟩ = ⟨[s], μ'⟩) : runF Γ body n m ss μ = some (.ret s μ') := by
  have h : exB { Γ with r := μ.length } body ⟨ss ++ List.replicate (m - n) .any, μ⟩ = some (.rt sv A) := h
  unfold runF
  rw [if_pos hl, h]
  dsimp only
  rw [hg]
theorem gc_own {ds : List PyData} : gcA 0 ⟨[.own 0], [.lst ds]⟩ = ⟨[.own 0], [.lst ds]⟩ := rfl
theorem gc_own1 {ds : List PyData} {n : ON} : gcA 0 ⟨[.own 1], [n, .lst ds]⟩ = ⟨[.own 0], [.lst ds]⟩ := rfl
theorem nil_le (ds : List PyData) (h : ds.length ≤ 1000) : ¬ 1000000 < ds.length := by omega
theorem bf_min2 {i j : Int} : biF .min [.int i, .int j] = some (.int (if j < i then j else i)) := rfl
theorem bf_max2 {i j : Int} : biF .max [.int i, .int j] = some (.int (if j > i then j else i)) := rfl
theorem bf_lenL {l : List PyData} : biF .len [.list l] = some (.int l.length) := rfl
theorem bf_lenT {l : List PyData} : biF .len [.tuple l] = some (.int l.length) := rfl
theorem bf_int {i : Int} : biF .int [.int i] = some (.int i) := rfl
theorem bf_intB {b : Bool} : biF .int [.bool b] = some (.int (if b then 1 else 0)) := rfl
theorem bf_abs {i : Int} : biF .abs [.int i] = some (.int (if i < 0 then -i else i)) := rfl
theorem bl_list {l : List PyData} {fr : Bool} {A : AS} : biK fr .list [.list l] (biF .list [.list l]) A = alloc fr l A := rfl
theorem tr_int {i : Int} : truD (.int i) = some (i != 0) := rfl
theorem tr_bool {b : Bool} : truD (.bool b) = some b := rfl
theorem tr_list {l : List PyData} : truD (.list l) = some (!l.isEmpty) := rfl
theorem sq_list {l : List PyData} : seqD (.list l) = some l := rfl
theorem sq_tup {l : List PyData} : seqD (.tuple l) = some l := rfl
theorem ix_list {l : List PyData} {j : Nat} {d : PyData} (h : l[j]? = some d) : ixD (.list l) (.int (j : Int)) = some d := by first | exact atI_nat h | exact Eng.atI_nat h | exact Evl.atI_nat h
theorem ix_tup {l : List PyData} {j : Nat} {d : PyData} (h : l[j]? = some d) : ixD (.tuple l) (.int (j : Int)) = some d := by first | exact atI_nat h | exact Eng.atI_nat h | exact Evl.atI_nat h
theorem lent_dat {d : PyData} {A : AS} (h : noRef d = true) : lentO false A (some (.ret (.dat d) [])) = some (.ok (.dat d) A) := by simp [lentO, h]
theorem plain_dat {d : PyData} {A : AS} : plainO false A (some (.ret (.dat d) [])) = some (.ok (.dat d) A) := by simp [plainO]
theorem plain_own {l : List PyData} {A : AS} : plainO true A (some (.ret (.own 0) [.lst l])) = some (.ok (.own A.μ.length) ⟨A.ρ, A.μ ++ [.lst l]⟩) := by simp [plainO]
theorem plain_frz {l : List PyData} {A : AS} : plainO false A (some (.ret (.own 0) [.lst l])) = some (.ok (.dat (.list l)) A) := by simp [plainO]
theorem ni_ref {n : Nat} : noRef (ni n) = true := rfl
theorem ints_nl (B : List Nat) : intsD (B.map ni) = some (B.map fun (b : Nat) => (b : Int)) := by
  induction B with
  | nil => rfl
  | cons b B ih =>
    rw [List.map_cons, intsD, ih]; rfl
end Py

set_option Elab.async false
set_option linter.all false
set_option maxRecDepth 100000
set_option maxHeartbeats 4000000
namespace Pf
open PySem PySem.Spec PyProof.Rows L2 Py
open Eng (red rstep PB Bas ext elim lead ext_len PB_len nats_of)
open Evl (Ex)
def subT : Str → Str → Option Bool := fun D C => if D = "NoSolution" then (if C = "NoSolution" then some true else if C = "BastionError" then some true else if C = "InvalidText" then some false else none) else none
def Φ_reduced : List SV → List ON → Option RO := runF (Gm0 subT) b_reduced 2 3
theorem red_loop (Γ : Gm) (B : List Nat) (m : Nat) (x : SV) (μ : List ON) : forGo (.nm 2) [2] (exB Γ b_reduced_1) (B.map ni) ⟨[x, .dat (ni m), .any], μ⟩ = some (.nx ⟨[x, .dat (ni (red B m)), .any], μ⟩) := by
  induction B generalizing m with
  | nil => rfl
  | cons r B ih =>
    rw [List.map_cons, forGo, b_reduced_1]
    simp only [bindK_ok, bindK_ex, noxK_ok, seqK_ex, thenK_ex, thenK_ok, thenK_ex, seqK_nx, seqK_rt, seqK_bk, seqK_ct, seqK_ex, varK_dat, varK_own, ofK_some, toDK_lst, lstK_lst, bind_ap, nox_ap, then_ap, ret_ap, of_ap, view_ap, toD_dat, toD_own, toDs_nil, toDs_cons, views_nil, views_cons, tru_ap, lstAt_own, view_dat, view_own, viewK_lst, a_dat, a_var, a_bin, a_un, a_cmp, a_chn, a_and, a_or, andK_ap, orK_ap, chnK_ap, a_not, a_ite, iteK_ap, a_tup, a_lst, a_idx, a_cat, a_rep, a_slc, a_isi, a_blen, blenK_int, a_sortr, sortrK_list, a_call, a_bi, biK_some, a_com, comK_ok, es_nil, es_cons, ts_nil, ts_one, i_seq, i_enu, i_rng, b_nil, b_cons, s_asg, put_ap, s_ret, s_ite, ifK_ap, s_for, s_while, s_gc, s_raise, s_pass, s_app, s_aug, augK_dat, s_asgI, asgK_own,
  List.getElem?_cons_zero, List.getElem?_cons_succ, List.set_cons_zero, List.set_cons_succ, wipeV, bd_add, bd_sub, bd_and, bd_or, bd_xor, ud_neg, cd_lt, cd_le, cd_gt, cd_ge, cd_eq, cd_ne, bf_min2, bf_max2, bf_lenL, bf_lenT, bf_int, bf_intB, bf_abs, bl_list, tr_int, tr_bool, tr_list, sq_list, sq_tup, tgSet, setNs, callF, List.length_cons, List.length_nil, List.nil_append, List.cons_append, if_true, if_false, reduceIte, Bool.false_eq_true, Nat.le_refl, Nat.zero_le, List.length_map, List.length_append, List.map_cons, List.map_nil, List.replicate, Nat.reduceAdd, Nat.reduceSub, at_fn, at_r, xor_c, min_c]
    exact ih (min m (m ^^^ r))
theorem reduced_run (B : List Nat) (m : Nat) : Φ_reduced [.dat (nl B), .dat (ni m)] [] = some (.ret (.dat (ni (red B m))) []) := by
  unfold Φ_reduced runF b_reduced
  simp only [bindK_ok, bindK_ex, noxK_ok, seqK_ex, thenK_ex, thenK_ok, thenK_ex, seqK_nx, seqK_rt, seqK_bk, seqK_ct, seqK_ex, varK_dat, varK_own, ofK_some, toDK_lst, lstK_lst, bind_ap, nox_ap, then_ap, ret_ap, of_ap, view_ap, toD_dat, toD_own, toDs_nil, toDs_cons, views_nil, views_cons, tru_ap, lstAt_own, view_dat, view_own, viewK_lst, a_dat, a_var, a_bin, a_un, a_cmp, a_chn, a_and, a_or, andK_ap, orK_ap, chnK_ap, a_not, a_ite, iteK_ap, a_tup, a_lst, a_idx, a_cat, a_rep, a_slc, a_isi, a_blen, blenK_int, a_sortr, sortrK_list, a_call, a_bi, biK_some, a_com, comK_ok, es_nil, es_cons, ts_nil, ts_one, i_seq, i_enu, i_rng, b_nil, b_cons, s_asg, put_ap, s_ret, s_ite, ifK_ap, s_for, s_while, s_gc, s_raise, s_pass, s_app, s_aug, augK_dat, s_asgI, asgK_own,
  List.getElem?_cons_zero, List.getElem?_cons_succ, List.set_cons_zero, List.set_cons_succ, wipeV, bd_add, bd_sub, bd_and, bd_or, bd_xor, ud_neg, cd_lt, cd_le, cd_gt, cd_ge, cd_eq, cd_ne, bf_min2, bf_max2, bf_lenL, bf_lenT, bf_int, bf_intB, bf_abs, bl_list, tr_int, tr_bool, tr_list, sq_list, sq_tup, tgSet, setNs, callF, List.length_cons, List.length_nil, List.nil_append, List.cons_append, if_true, if_false, reduceIte, Bool.false_eq_true, Nat.le_refl, Nat.zero_le, List.length_map, List.length_append, List.map_cons, List.map_nil, List.replicate, Nat.reduceAdd, Nat.reduceSub, at_fn, at_r, red_loop, gc_dat]

/-! ### tagged -/
def tagsOf (rows : List Nat) : List Nat := rows.mapIdx fun k r => r * 2 ^ rows.length ||| 2 ^ k
def Φ_tagged : List SV → List ON → Option RO := runF (Gm0 subT) b_tagged 1 4
theorem tagged_run (rows : List Nat) (hl : rows.length ≤ 1000) (hb : ∀ r ∈ rows, r < 2 ^ 10000) : Φ_tagged [.dat (nl rows)] [] = some (.ret (.own 0) [.lst ((tagsOf rows).map ni)]) := by
  refine run_ret (sv := .own 0) (A := ⟨[.dat (nl rows), .dat (ni rows.length), .any, .any], [.lst ((tagsOf rows).map ni)]⟩) rfl ?_ gc_own
  have key : ∀ Γ : Gm, comGo (.tup [2, 3]) [2, 3] (evTs Γ .nil) (ev Γ t_tagged_1) 0 (enumD (rows.map ni)) [] ⟨[.dat (nl rows), .dat (ni rows.length), .any, .any], []⟩ = some (.ok ((tagsOf rows).map ni) ⟨[.dat (nl rows), .dat (ni rows.length), .any, .any], []⟩) := fun Γ => by
    refine com_list [] (by simp [enumD, tagsOf]) fun i d o h1 h2 => ?_
    unfold enumD at h1
    rw [List.getElem?_mapIdx, List.getElem?_map] at h1
    unfold tagsOf at h2
    rw [List.getElem?_map, List.getElem?_mapIdx] at h2
    cases hr : rows[i]? with
    | none => rw [hr] at h1; cases h1
    | some r =>
      rw [hr] at h1 h2
      cases h1; cases h2
      have hrb := hb r (List.mem_of_getElem? hr)
      have hi : i < rows.length := (List.getElem?_eq_some_iff.mp hr).1
      have hbit := Eng.intBits_lt hrb
      refine ⟨[.dat (nl rows), .dat (ni rows.length), .dat (ni i), .dat (ni r)], rfl, ?_, rfl⟩
      unfold t_tagged_1
      have h1 : Builtin.Int.intBits (r : Int) + rows.length ≤ 2 ^ 27 := Nat.le_trans (Nat.add_le_add hbit hl) (by decide)
      simp only [bindK_ok, bindK_ex, noxK_ok, seqK_ex, thenK_ex, thenK_ok, thenK_ex, seqK_nx, seqK_rt, seqK_bk, seqK_ct, seqK_ex, varK_dat, varK_own, ofK_some, toDK_lst, lstK_lst, bind_ap, nox_ap, then_ap, ret_ap, of_ap, view_ap, toD_dat, toD_own, toDs_nil, toDs_cons, views_nil, views_cons, tru_ap, lstAt_own, view_dat, view_own, viewK_lst, a_dat, a_var, a_bin, a_un, a_cmp, a_chn, a_and, a_or, andK_ap, orK_ap, chnK_ap, a_not, a_ite, iteK_ap, a_tup, a_lst, a_idx, a_cat, a_rep, a_slc, a_isi, a_blen, blenK_int, a_sortr, sortrK_list, a_call, a_bi, biK_some, a_com, comK_ok, es_nil, es_cons, ts_nil, ts_one, i_seq, i_enu, i_rng, b_nil, b_cons, s_asg, put_ap, s_ret, s_ite, ifK_ap, s_for, s_while, s_gc, s_raise, s_pass, s_app, s_aug, augK_dat, s_asgI, asgK_own,
  List.getElem?_cons_zero, List.getElem?_cons_succ, List.set_cons_zero, List.set_cons_succ, wipeV, bd_add, bd_sub, bd_and, bd_or, bd_xor, ud_neg, cd_lt, cd_le, cd_gt, cd_ge, cd_eq, cd_ne, bf_min2, bf_max2, bf_lenL, bf_lenT, bf_int, bf_intB, bf_abs, bl_list, tr_int, tr_bool, tr_list, sq_list, sq_tup, tgSet, setNs, callF, List.length_cons, List.length_nil, List.nil_append, List.cons_append, if_true, if_false, reduceIte, Bool.false_eq_true, Nat.le_refl, Nat.zero_le, List.length_map, List.length_append, List.map_cons, List.map_nil, List.replicate, Nat.reduceAdd, Nat.reduceSub, at_fn, at_r, shl_c h1, shl1_c (n := i) (by omega), or_c]
  unfold b_tagged
  simp only [bindK_ok, bindK_ex, noxK_ok, seqK_ex, thenK_ex, thenK_ok, thenK_ex, seqK_nx, seqK_rt, seqK_bk, seqK_ct, seqK_ex, varK_dat, varK_own, ofK_some, toDK_lst, lstK_lst, bind_ap, nox_ap, then_ap, ret_ap, of_ap, view_ap, toD_dat, toD_own, toDs_nil, toDs_cons, views_nil, views_cons, tru_ap, lstAt_own, view_dat, view_own, viewK_lst, a_dat, a_var, a_bin, a_un, a_cmp, a_chn, a_and, a_or, andK_ap, orK_ap, chnK_ap, a_not, a_ite, iteK_ap, a_tup, a_lst, a_idx, a_cat, a_rep, a_slc, a_isi, a_blen, blenK_int, a_sortr, sortrK_list, a_call, a_bi, biK_some, a_com, comK_ok, es_nil, es_cons, ts_nil, ts_one, i_seq, i_enu, i_rng, b_nil, b_cons, s_asg, put_ap, s_ret, s_ite, ifK_ap, s_for, s_while, s_gc, s_raise, s_pass, s_app, s_aug, augK_dat, s_asgI, asgK_own,
  List.getElem?_cons_zero, List.getElem?_cons_succ, List.set_cons_zero, List.set_cons_succ, wipeV, bd_add, bd_sub, bd_and, bd_or, bd_xor, ud_neg, cd_lt, cd_le, cd_gt, cd_ge, cd_eq, cd_ne, bf_min2, bf_max2, bf_lenL, bf_lenT, bf_int, bf_intB, bf_abs, bl_list, tr_int, tr_bool, tr_list, sq_list, sq_tup, tgSet, setNs, callF, List.length_cons, List.length_nil, List.nil_append, List.cons_append, if_true, if_false, reduceIte, Bool.false_eq_true, Nat.le_refl, Nat.zero_le, List.length_map, List.length_append, List.map_cons, List.map_nil, List.replicate, Nat.reduceAdd, Nat.reduceSub, at_fn, at_r, key, List.length_map]
  rw [if_neg (by simp [enumD]; omega), alloc_own (by simp [tagsOf]; omega)]
  rfl
/-! ### masks -/
section
open Eng
theorem intBits_ld {n : Nat} (h : n ≠ 0) : Builtin.Int.intBits (n : Int) = lead n + 1 := by
  unfold Builtin.Int.intBits lead
  rw [if_neg (by simp; omega), Int.natAbs_natCast]
theorem ld_cast {n : Nat} (h : n ≠ 0) : ((Builtin.Int.intBits (n : Int) : Nat) : Int) - 1 = ((lead n : Nat) : Int) := by rw [intBits_ld h]; omega
theorem tru_and (b t : Nat) : (((b &&& 2 ^ t : Nat) : Int) != 0) = b.testBit t := by
  cases h : b.testBit t with
  | true =>
    refine bne_iff_ne.mpr fun e => ?_
    have e2 : b &&& 2 ^ t = 0 := by omega
    have := congrArg (fun n => n.testBit t) e2
    simp only [Nat.testBit_and, h, Nat.testBit_two_pow_self, Nat.zero_testBit, Bool.and_self] at this
    exact absurd this (by decide)
  | false =>
    have e : b &&& 2 ^ t = 0 := by
      apply Nat.eq_of_testBit_eq
      intro i
      rw [Nat.testBit_and, Nat.testBit_two_pow, Nat.zero_testBit]
      by_cases hi : t = i
      · subst hi; rw [h]; rfl
      · rw [decide_eq_false hi, Bool.and_false]
    rw [e]; rfl
theorem red_le (B : List Nat) : ∀ m, red B m ≤ m := by
  induction B with
  | nil => intro m; exact Nat.le_refl _
  | cons b B ih => intro m; rw [red_cons]; exact Nat.le_trans (ih _) (Nat.min_le_left _ _)
theorem ext_lt {n : Nat} {B : List Nat} {r : Nat} (h : ∀ b ∈ B, b < 2 ^ n) (hr : r < 2 ^ n) : ∀ b ∈ ext B r, b < 2 ^ n := by
  have h1 := Nat.lt_of_le_of_lt (red_le B r) hr
  unfold ext
  split
  · exact h
  · intro b hb
    rcases List.mem_append.mp hb with hb | hb
    · obtain ⟨c, hc, rfl⟩ := List.mem_map.mp hb
      unfold elim
      split
      · exact Nat.xor_lt_two_pow (h c hc) h1
      · exact h c hc
    · rw [List.mem_singleton.mp hb]; exact h1
theorem PB_lt {n : Nat} (rows : List Nat) (h : ∀ b ∈ rows, b < 2 ^ n) : ∀ b ∈ PB rows, b < 2 ^ n := by
  have go : ∀ (rows B : List Nat), (∀ b ∈ rows, b < 2 ^ n) → (∀ b ∈ B, b < 2 ^ n) → ∀ b ∈ rows.foldl ext B, b < 2 ^ n := fun rows => by
    induction rows with
    | nil => intro B _ h2; exact h2
    | cons r rows ih => intro B h1 h2; exact ih _ (fun b hb => h1 b (List.mem_cons_of_mem _ hb)) (ext_lt h2 (h1 r (List.mem_cons_self ..)))
  exact go rows [] h (fun b hb => (by cases hb))
end
/-! ### echelon -/
theorem gcE1 {a b c : PyData} {l : List PyData} : gcA 0 ⟨[.dat a, .own 0, .dat b, .dat c, .any, .any], [.lst l]⟩ = ⟨[.dat a, .own 0, .dat b, .dat c, .any, .any], [.lst l]⟩ := rfl
theorem gcE2 {a b c d : PyData} {n : ON} {l : List PyData} : gcA 0 ⟨[.dat a, .own 1, .dat b, .dat c, .dat d, .any], [n, .lst l]⟩ = ⟨[.dat a, .own 0, .dat b, .dat c, .dat d, .any], [.lst l]⟩ := rfl
theorem frzE {a b c d e : PyData} {l : List PyData} : frzA 0 e ⟨[.dat a, .own 0, .dat b, .dat c, .dat d, .any], [.lst l]⟩ = ⟨[.dat a, .dat e, .dat b, .dat c, .dat d, .any], [.gone]⟩ := rfl
theorem ech_step {Γ : Gm} (hΓ : Γ.fn "reduced" = Φ_reduced) (hr : Γ.r = 0) {a : PyData} {B : List Nat} {r : Nat} (hl : B.length ≤ 10000) (hb : r < 2 ^ 20000) : ∃ x y z, exB Γ b_echelon_2 ⟨[.dat a, .own 0, .dat (ni r), .any, .any, .any], [.lst (B.map ni)]⟩ = some (.nx ⟨[.dat a, .own 0, x, y, z, .any], [.lst ((ext B r).map ni)]⟩) := by
  have hle := red_le B r
  unfold b_echelon_2
  by_cases h0 : red B r = 0
  · refine ⟨.dat (ni r), .dat (ni (red B r)), .any, ?_⟩
    have e0 : (((red B r : Nat) : Int) != 0) = false := by rw [h0]; rfl
    have e1 : ext B r = B := if_pos h0
    simp only [bindK_ok, bindK_ex, noxK_ok, seqK_ex, thenK_ex, thenK_ok, thenK_ex, seqK_nx, seqK_rt, seqK_bk, seqK_ct, seqK_ex, varK_dat, varK_own, ofK_some, toDK_lst, lstK_lst, bind_ap, nox_ap, then_ap, ret_ap, of_ap, view_ap, toD_dat, toD_own, toDs_nil, toDs_cons, views_nil, views_cons, tru_ap, lstAt_own, view_dat, view_own, viewK_lst, a_dat, a_var, a_bin, a_un, a_cmp, a_chn, a_and, a_or, andK_ap, orK_ap, chnK_ap, a_not, a_ite, iteK_ap, a_tup, a_lst, a_idx, a_cat, a_rep, a_slc, a_isi, a_blen, blenK_int, a_sortr, sortrK_list, a_call, a_bi, biK_some, a_com, comK_ok, es_nil, es_cons, ts_nil, ts_one, i_seq, i_enu, i_rng, b_nil, b_cons, s_asg, put_ap, s_ret, s_ite, ifK_ap, s_for, s_while, s_gc, s_raise, s_pass, s_app, s_aug, augK_dat, s_asgI, asgK_own,
  List.getElem?_cons_zero, List.getElem?_cons_succ, List.set_cons_zero, List.set_cons_succ, wipeV, bd_add, bd_sub, bd_and, bd_or, bd_xor, ud_neg, cd_lt, cd_le, cd_gt, cd_ge, cd_eq, cd_ne, bf_min2, bf_max2, bf_lenL, bf_lenT, bf_int, bf_intB, bf_abs, bl_list, tr_int, tr_bool, tr_list, sq_list, sq_tup, tgSet, setNs, callF, List.length_cons, List.length_nil, List.nil_append, List.cons_append, if_true, if_false, reduceIte, Bool.false_eq_true, Nat.le_refl, Nat.zero_le, List.length_map, List.length_append, List.map_cons, List.map_nil, List.replicate, Nat.reduceAdd, Nat.reduceSub, at_fn, at_r, hΓ, reduced_run, lent_dat ni_ref, e0, hr, gcE1, e1]
  · refine ⟨.dat (ni r), .dat (ni (red B r)), .dat (ni (2 ^ lead (red B r))), ?_⟩
    have e0 : (((red B r : Nat) : Int) != 0) = true := by simpa using h0
    have e1 : ext B r = B.map (elim (red B r)) ++ [red B r] := if_neg h0
    have hlead : lead (red B r) ≤ 100000 := by
      have h1 : 2 ^ lead (red B r) ≤ red B r := Nat.log2_self_le h0
      by_cases h2 : lead (red B r) ≤ 100000
      · exact h2
      · have h3 : (2 : Nat) ^ 20000 ≤ 2 ^ lead (red B r) := Nat.pow_le_pow_right (by decide) (by omega)
        omega
    have key : comGo (.nm 5) [5] (evTs Γ .nil) (ev Γ t_echelon_1) 0 (B.map ni) [] ⟨[.dat a, .dat (nl B), .dat (ni r), .dat (ni (red B r)), .dat (ni (2 ^ lead (red B r))), .any], [.gone]⟩ = some (.ok ((B.map (elim (red B r))).map ni) ⟨[.dat a, .dat (nl B), .dat (ni r), .dat (ni (red B r)), .dat (ni (2 ^ lead (red B r))), .any], [.gone]⟩) := by
      refine com_list [] (by simp) fun i d o h1 h2 => ?_
      rw [List.getElem?_map] at h1 h2
      rw [List.getElem?_map] at h2
      cases hb : B[i]? with
      | none => rw [hb] at h1; cases h1
      | some b =>
        rw [hb] at h1 h2
        cases h1; cases h2
        refine ⟨_, rfl, ?_, rfl⟩
        unfold t_echelon_1
        simp only [bindK_ok, bindK_ex, noxK_ok, seqK_ex, thenK_ex, thenK_ok, thenK_ex, seqK_nx, seqK_rt, seqK_bk, seqK_ct, seqK_ex, varK_dat, varK_own, ofK_some, toDK_lst, lstK_lst, bind_ap, nox_ap, then_ap, ret_ap, of_ap, view_ap, toD_dat, toD_own, toDs_nil, toDs_cons, views_nil, views_cons, tru_ap, lstAt_own, view_dat, view_own, viewK_lst, a_dat, a_var, a_bin, a_un, a_cmp, a_chn, a_and, a_or, andK_ap, orK_ap, chnK_ap, a_not, a_ite, iteK_ap, a_tup, a_lst, a_idx, a_cat, a_rep, a_slc, a_isi, a_blen, blenK_int, a_sortr, sortrK_list, a_call, a_bi, biK_some, a_com, comK_ok, es_nil, es_cons, ts_nil, ts_one, i_seq, i_enu, i_rng, b_nil, b_cons, s_asg, put_ap, s_ret, s_ite, ifK_ap, s_for, s_while, s_gc, s_raise, s_pass, s_app, s_aug, augK_dat, s_asgI, asgK_own,
  List.getElem?_cons_zero, List.getElem?_cons_succ, List.set_cons_zero, List.set_cons_succ, wipeV, bd_add, bd_sub, bd_and, bd_or, bd_xor, ud_neg, cd_lt, cd_le, cd_gt, cd_ge, cd_eq, cd_ne, bf_min2, bf_max2, bf_lenL, bf_lenT, bf_int, bf_intB, bf_abs, bl_list, tr_int, tr_bool, tr_list, sq_list, sq_tup, tgSet, setNs, callF, List.length_cons, List.length_nil, List.nil_append, List.cons_append, if_true, if_false, reduceIte, Bool.false_eq_true, Nat.le_refl, Nat.zero_le, List.length_map, List.length_append, List.map_cons, List.map_nil, List.replicate, Nat.reduceAdd, Nat.reduceSub, at_fn, at_r, and_c, tru_and]
        cases hbit : b.testBit (lead (red B r)) with
        | true => simp only [bindK_ok, bindK_ex, noxK_ok, seqK_ex, thenK_ex, thenK_ok, thenK_ex, seqK_nx, seqK_rt, seqK_bk, seqK_ct, seqK_ex, varK_dat, varK_own, ofK_some, toDK_lst, lstK_lst, bind_ap, nox_ap, then_ap, ret_ap, of_ap, view_ap, toD_dat, toD_own, toDs_nil, toDs_cons, views_nil, views_cons, tru_ap, lstAt_own, view_dat, view_own, viewK_lst, a_dat, a_var, a_bin, a_un, a_cmp, a_chn, a_and, a_or, andK_ap, orK_ap, chnK_ap, a_not, a_ite, iteK_ap, a_tup, a_lst, a_idx, a_cat, a_rep, a_slc, a_isi, a_blen, blenK_int, a_sortr, sortrK_list, a_call, a_bi, biK_some, a_com, comK_ok, es_nil, es_cons, ts_nil, ts_one, i_seq, i_enu, i_rng, b_nil, b_cons, s_asg, put_ap, s_ret, s_ite, ifK_ap, s_for, s_while, s_gc, s_raise, s_pass, s_app, s_aug, augK_dat, s_asgI, asgK_own,
  List.getElem?_cons_zero, List.getElem?_cons_succ, List.set_cons_zero, List.set_cons_succ, wipeV, bd_add, bd_sub, bd_and, bd_or, bd_xor, ud_neg, cd_lt, cd_le, cd_gt, cd_ge, cd_eq, cd_ne, bf_min2, bf_max2, bf_lenL, bf_lenT, bf_int, bf_intB, bf_abs, bl_list, tr_int, tr_bool, tr_list, sq_list, sq_tup, tgSet, setNs, callF, List.length_cons, List.length_nil, List.nil_append, List.cons_append, if_true, if_false, reduceIte, Bool.false_eq_true, Nat.le_refl, Nat.zero_le, List.length_map, List.length_append, List.map_cons, List.map_nil, List.replicate, Nat.reduceAdd, Nat.reduceSub, at_fn, at_r, xor_c, elim, hbit]
        | false => simp only [bindK_ok, bindK_ex, noxK_ok, seqK_ex, thenK_ex, thenK_ok, thenK_ex, seqK_nx, seqK_rt, seqK_bk, seqK_ct, seqK_ex, varK_dat, varK_own, ofK_some, toDK_lst, lstK_lst, bind_ap, nox_ap, then_ap, ret_ap, of_ap, view_ap, toD_dat, toD_own, toDs_nil, toDs_cons, views_nil, views_cons, tru_ap, lstAt_own, view_dat, view_own, viewK_lst, a_dat, a_var, a_bin, a_un, a_cmp, a_chn, a_and, a_or, andK_ap, orK_ap, chnK_ap, a_not, a_ite, iteK_ap, a_tup, a_lst, a_idx, a_cat, a_rep, a_slc, a_isi, a_blen, blenK_int, a_sortr, sortrK_list, a_call, a_bi, biK_some, a_com, comK_ok, es_nil, es_cons, ts_nil, ts_one, i_seq, i_enu, i_rng, b_nil, b_cons, s_asg, put_ap, s_ret, s_ite, ifK_ap, s_for, s_while, s_gc, s_raise, s_pass, s_app, s_aug, augK_dat, s_asgI, asgK_own,
  List.getElem?_cons_zero, List.getElem?_cons_succ, List.set_cons_zero, List.set_cons_succ, wipeV, bd_add, bd_sub, bd_and, bd_or, bd_xor, ud_neg, cd_lt, cd_le, cd_gt, cd_ge, cd_eq, cd_ne, bf_min2, bf_max2, bf_lenL, bf_lenT, bf_int, bf_intB, bf_abs, bl_list, tr_int, tr_bool, tr_list, sq_list, sq_tup, tgSet, setNs, callF, List.length_cons, List.length_nil, List.nil_append, List.cons_append, if_true, if_false, reduceIte, Bool.false_eq_true, Nat.le_refl, Nat.zero_le, List.length_map, List.length_append, List.map_cons, List.map_nil, List.replicate, Nat.reduceAdd, Nat.reduceSub, at_fn, at_r, elim, hbit]
    have hn : (1000000 < B.length) = False := by simp; omega
    have hn2 : (B.length < 100000) = True := by simp; omega
    have ha := fun A : AS => alloc_own (A := A) (ds := (B.map (elim (red B r))).map ni) (by simp; omega)
    simp only [bindK_ok, bindK_ex, noxK_ok, seqK_ex, thenK_ex, thenK_ok, thenK_ex, seqK_nx, seqK_rt, seqK_bk, seqK_ct, seqK_ex, varK_dat, varK_own, ofK_some, toDK_lst, lstK_lst, bind_ap, nox_ap, then_ap, ret_ap, of_ap, view_ap, toD_dat, toD_own, toDs_nil, toDs_cons, views_nil, views_cons, tru_ap, lstAt_own, view_dat, view_own, viewK_lst, a_dat, a_var, a_bin, a_un, a_cmp, a_chn, a_and, a_or, andK_ap, orK_ap, chnK_ap, a_not, a_ite, iteK_ap, a_tup, a_lst, a_idx, a_cat, a_rep, a_slc, a_isi, a_blen, blenK_int, a_sortr, sortrK_list, a_call, a_bi, biK_some, a_com, comK_ok, es_nil, es_cons, ts_nil, ts_one, i_seq, i_enu, i_rng, b_nil, b_cons, s_asg, put_ap, s_ret, s_ite, ifK_ap, s_for, s_while, s_gc, s_raise, s_pass, s_app, s_aug, augK_dat, s_asgI, asgK_own,
  List.getElem?_cons_zero, List.getElem?_cons_succ, List.set_cons_zero, List.set_cons_succ, wipeV, bd_add, bd_sub, bd_and, bd_or, bd_xor, ud_neg, cd_lt, cd_le, cd_gt, cd_ge, cd_eq, cd_ne, bf_min2, bf_max2, bf_lenL, bf_lenT, bf_int, bf_intB, bf_abs, bl_list, tr_int, tr_bool, tr_list, sq_list, sq_tup, tgSet, setNs, callF, List.length_cons, List.length_nil, List.nil_append, List.cons_append, if_true, if_false, reduceIte, Bool.false_eq_true, Nat.le_refl, Nat.zero_le, List.length_map, List.length_append, List.map_cons, List.map_nil, List.replicate, Nat.reduceAdd, Nat.reduceSub, at_fn, at_r, hΓ, reduced_run, lent_dat ni_ref, e0, hr, ld_cast h0, shl1_c hlead, frzE, key, hn, hn2, ha, gcE2, e1, List.map_append]
theorem ech_loop {Γ : Gm} (hΓ : Γ.fn "reduced" = Φ_reduced) (hr : Γ.r = 0) {a : PyData} : ∀ (rows B : List Nat), B.length + rows.length ≤ 10000 → (∀ r ∈ rows, r < 2 ^ 20000) → forGo (.nm 2) [2, 3, 4, 5] (exB Γ b_echelon_2) (rows.map ni) ⟨[.dat a, .own 0, .any, .any, .any, .any], [.lst (B.map ni)]⟩ = some (.nx ⟨[.dat a, .own 0, .any, .any, .any, .any], [.lst ((rows.foldl ext B).map ni)]⟩)
  | [], B, _, _ => rfl
  | r :: rows, B, hl, hb => by
    obtain ⟨x, y, z, h⟩ := ech_step hΓ hr (a := a) (B := B) (r := r) (by simp at hl; omega) (hb r List.mem_cons_self)
    have hx := ext_len B r
    have ih := ech_loop hΓ hr (a := a) rows (ext B r) (by simp at hl; omega) fun q hq => hb q (List.mem_cons_of_mem _ hq)
    rw [List.map_cons, forGo]
    simp only [bindK_ok, bindK_ex, noxK_ok, seqK_ex, thenK_ex, thenK_ok, thenK_ex, seqK_nx, seqK_rt, seqK_bk, seqK_ct, seqK_ex, varK_dat, varK_own, ofK_some, toDK_lst, lstK_lst, bind_ap, nox_ap, then_ap, ret_ap, of_ap, view_ap, toD_dat, toD_own, toDs_nil, toDs_cons, views_nil, views_cons, tru_ap, lstAt_own, view_dat, view_own, viewK_lst, a_dat, a_var, a_bin, a_un, a_cmp, a_chn, a_and, a_or, andK_ap, orK_ap, chnK_ap, a_not, a_ite, iteK_ap, a_tup, a_lst, a_idx, a_cat, a_rep, a_slc, a_isi, a_blen, blenK_int, a_sortr, sortrK_list, a_call, a_bi, biK_some, a_com, comK_ok, es_nil, es_cons, ts_nil, ts_one, i_seq, i_enu, i_rng, b_nil, b_cons, s_asg, put_ap, s_ret, s_ite, ifK_ap, s_for, s_while, s_gc, s_raise, s_pass, s_app, s_aug, augK_dat, s_asgI, asgK_own,
  List.getElem?_cons_zero, List.getElem?_cons_succ, List.set_cons_zero, List.set_cons_succ, wipeV, bd_add, bd_sub, bd_and, bd_or, bd_xor, ud_neg, cd_lt, cd_le, cd_gt, cd_ge, cd_eq, cd_ne, bf_min2, bf_max2, bf_lenL, bf_lenT, bf_int, bf_intB, bf_abs, bl_list, tr_int, tr_bool, tr_list, sq_list, sq_tup, tgSet, setNs, callF, List.length_cons, List.length_nil, List.nil_append, List.cons_append, if_true, if_false, reduceIte, Bool.false_eq_true, Nat.le_refl, Nat.zero_le, List.length_map, List.length_append, List.map_cons, List.map_nil, List.replicate, Nat.reduceAdd, Nat.reduceSub, at_fn, at_r, h]
    exact ih
def Φ_echelon : List SV → List ON → Option RO := runF ((Gm0 subT).add "reduced" Φ_reduced) b_echelon 1 6
theorem sort_nat (B : List Nat) : ∃ C : List Nat, C.Perm B ∧ C.Pairwise (· ≥ ·) ∧ (sortI (B.map fun (b : Nat) => (b : Int))).reverse.map PyData.int = C.map ni := by
  have p : (sortI (B.map fun (b : Nat) => (b : Int))).reverse.Perm (B.map fun (b : Nat) => (b : Int)) := (List.reverse_perm _).trans (sortI_perm _)
  have q : (sortI (B.map fun (b : Nat) => (b : Int))).reverse.Pairwise (· ≥ ·) := List.pairwise_reverse.mpr (sortI_sorted _)
  obtain ⟨C, h1, h2, h3⟩ := nats_of p q
  exact ⟨C, h2, h3, by rw [h1, List.map_map]; rfl⟩
theorem echelon_run (rows : List Nat) (hl : rows.length ≤ 10000) (hb : ∀ r ∈ rows, r < 2 ^ 20000) : ∃ C : List Nat, C.Perm (PB rows) ∧ C.Pairwise (· ≥ ·) ∧ Φ_echelon [.dat (nl rows)] [] = some (.ret (.own 0) [.lst (C.map ni)]) := by
  obtain ⟨C, h1, h2, h3⟩ := sort_nat (PB rows)
  have hlen := PB_len rows
  have hC : C.length ≤ 10000 := by rw [h1.length_eq]; omega
  refine ⟨C, h1, h2, run_ret (sv := .own 1) (A := ⟨[.dat (nl rows), .own 0, .any, .any, .any, .any], [.lst ((PB rows).map ni), .lst (C.map ni)]⟩) rfl ?_ gc_own1⟩
  have key : forGo (.nm 2) [2, 3, 4, 5] (exB (((Gm0 subT).add "reduced" Φ_reduced).at 0) b_echelon_2) (rows.map ni) ⟨[.dat (nl rows), .own 0, .any, .any, .any, .any], [.lst []]⟩ = some (.nx ⟨[.dat (nl rows), .own 0, .any, .any, .any, .any], [.lst ((PB rows).map ni)]⟩) := ech_loop Gm.add_same rfl rows [] (by simpa using hl) hb
  have ha := fun A : AS => alloc_own (A := A) (ds := C.map ni) (by simp; omega)
  have h0 := fun A : AS => alloc_own (A := A) (ds := []) (by simp)
  unfold b_echelon
  simp only [bindK_ok, bindK_ex, noxK_ok, seqK_ex, thenK_ex, thenK_ok, thenK_ex, seqK_nx, seqK_rt, seqK_bk, seqK_ct, seqK_ex, varK_dat, varK_own, ofK_some, toDK_lst, lstK_lst, bind_ap, nox_ap, then_ap, ret_ap, of_ap, view_ap, toD_dat, toD_own, toDs_nil, toDs_cons, views_nil, views_cons, tru_ap, lstAt_own, view_dat, view_own, viewK_lst, a_dat, a_var, a_bin, a_un, a_cmp, a_chn, a_and, a_or, andK_ap, orK_ap, chnK_ap, a_not, a_ite, iteK_ap, a_tup, a_lst, a_idx, a_cat, a_rep, a_slc, a_isi, a_blen, blenK_int, a_sortr, sortrK_list, a_call, a_bi, biK_some, a_com, comK_ok, es_nil, es_cons, ts_nil, ts_one, i_seq, i_enu, i_rng, b_nil, b_cons, s_asg, put_ap, s_ret, s_ite, ifK_ap, s_for, s_while, s_gc, s_raise, s_pass, s_app, s_aug, augK_dat, s_asgI, asgK_own,
  List.getElem?_cons_zero, List.getElem?_cons_succ, List.set_cons_zero, List.set_cons_succ, wipeV, bd_add, bd_sub, bd_and, bd_or, bd_xor, ud_neg, cd_lt, cd_le, cd_gt, cd_ge, cd_eq, cd_ne, bf_min2, bf_max2, bf_lenL, bf_lenT, bf_int, bf_intB, bf_abs, bl_list, tr_int, tr_bool, tr_list, sq_list, sq_tup, tgSet, setNs, callF, List.length_cons, List.length_nil, List.nil_append, List.cons_append, if_true, if_false, reduceIte, Bool.false_eq_true, Nat.le_refl, Nat.zero_le, List.length_map, List.length_append, List.map_cons, List.map_nil, List.replicate, Nat.reduceAdd, Nat.reduceSub, at_fn, at_r, h0, key, ints_nl, h3, ha]
/-! ### members -/
theorem gcM {a b : PyData} {l : List PyData} : gcA 0 ⟨[.dat a, .own 0, .dat b], [.lst l]⟩ = ⟨[.dat a, .own 0, .dat b], [.lst l]⟩ := rfl
theorem mem_loop {Γ : Gm} (hr : Γ.r = 0) : ∀ (n m : Nat) (ks : List Nat), (Eng.bits m).length < n → ks.length + (Eng.bits m).length ≤ 20000 → whGo ((ev Γ t_members_1).bind truM) [2] (exB Γ b_members_2) n ⟨[.dat (ni m), .own 0, .any], [.lst (ks.map ni)]⟩ = some (.nx ⟨[.dat (ni 0), .own 0, .any], [.lst ((ks ++ Eng.bits m).map ni)]⟩)
  | 0, _, _, h, _ => absurd h (Nat.not_lt_zero _)
  | n + 1, m, ks, h, hk => by
    unfold whGo
    by_cases h0 : m = 0
    · subst h0
      have e0 : (((0 : Nat) : Int) != 0) = false := rfl
      rw [t_members_1]
      simp only [bindK_ok, bindK_ex, noxK_ok, seqK_ex, thenK_ex, thenK_ok, thenK_ex, seqK_nx, seqK_rt, seqK_bk, seqK_ct, seqK_ex, varK_dat, varK_own, ofK_some, toDK_lst, lstK_lst, bind_ap, nox_ap, then_ap, ret_ap, of_ap, view_ap, toD_dat, toD_own, toDs_nil, toDs_cons, views_nil, views_cons, tru_ap, lstAt_own, view_dat, view_own, viewK_lst, a_dat, a_var, a_bin, a_un, a_cmp, a_chn, a_and, a_or, andK_ap, orK_ap, chnK_ap, a_not, a_ite, iteK_ap, a_tup, a_lst, a_idx, a_cat, a_rep, a_slc, a_isi, a_blen, blenK_int, a_sortr, sortrK_list, a_call, a_bi, biK_some, a_com, comK_ok, es_nil, es_cons, ts_nil, ts_one, i_seq, i_enu, i_rng, b_nil, b_cons, s_asg, put_ap, s_ret, s_ite, ifK_ap, s_for, s_while, s_gc, s_raise, s_pass, s_app, s_aug, augK_dat, s_asgI, asgK_own,
  List.getElem?_cons_zero, List.getElem?_cons_succ, List.set_cons_zero, List.set_cons_succ, wipeV, bd_add, bd_sub, bd_and, bd_or, bd_xor, ud_neg, cd_lt, cd_le, cd_gt, cd_ge, cd_eq, cd_ne, bf_min2, bf_max2, bf_lenL, bf_lenT, bf_int, bf_intB, bf_abs, bl_list, tr_int, tr_bool, tr_list, sq_list, sq_tup, tgSet, setNs, callF, List.length_cons, List.length_nil, List.nil_append, List.cons_append, if_true, if_false, reduceIte, Bool.false_eq_true, Nat.le_refl, Nat.zero_le, List.length_map, List.length_append, List.map_cons, List.map_nil, List.replicate, Nat.reduceAdd, Nat.reduceSub, at_fn, at_r, e0, Eng.bits_zero, List.append_nil]
    · have hm0 : 0 < m := by omega
      obtain ⟨t, h1, h2, h3⟩ := Eng.low_bit m hm0
      have el : m - (m &&& (m - 1)) = 2 ^ t := (fun (a b : Nat) (h : a + b = m) => (by omega : m - a = b)) _ _ h1
      have e0 : ((m : Int) != 0) = true := by simpa using h0
      have elow : Builtin.bitAnd (m : Int) (-(m : Int)) = ((2 ^ t : Nat) : Int) := by rw [Eng.bitAnd_low hm0, el]
      have ebl : ((Builtin.Int.intBits ((2 ^ t : Nat) : Int) : Nat) : Int) - 1 = (t : Int) := by rw [Eng.intBits_pow]; omega
      have hlen : (Eng.bits m).length = (Eng.bits (m &&& (m - 1))).length + 1 := by rw [h2]; rfl
      have hn2 : (ks.length < 100000) = True := by simp; omega
      have ih := mem_loop hr n (m &&& (m - 1)) (ks ++ [t]) (by omega) (by rw [List.length_append]; simp; omega)
      have et : (ev Γ t_members_1).bind truM ⟨[.dat (ni m), .own 0, .any], [.lst (ks.map ni)]⟩ = some (.ok true ⟨[.dat (ni m), .own 0, .any], [.lst (ks.map ni)]⟩) := by
        rw [t_members_1]
        simp only [bindK_ok, bindK_ex, noxK_ok, seqK_ex, thenK_ex, thenK_ok, thenK_ex, seqK_nx, seqK_rt, seqK_bk, seqK_ct, seqK_ex, varK_dat, varK_own, ofK_some, toDK_lst, lstK_lst, bind_ap, nox_ap, then_ap, ret_ap, of_ap, view_ap, toD_dat, toD_own, toDs_nil, toDs_cons, views_nil, views_cons, tru_ap, lstAt_own, view_dat, view_own, viewK_lst, a_dat, a_var, a_bin, a_un, a_cmp, a_chn, a_and, a_or, andK_ap, orK_ap, chnK_ap, a_not, a_ite, iteK_ap, a_tup, a_lst, a_idx, a_cat, a_rep, a_slc, a_isi, a_blen, blenK_int, a_sortr, sortrK_list, a_call, a_bi, biK_some, a_com, comK_ok, es_nil, es_cons, ts_nil, ts_one, i_seq, i_enu, i_rng, b_nil, b_cons, s_asg, put_ap, s_ret, s_ite, ifK_ap, s_for, s_while, s_gc, s_raise, s_pass, s_app, s_aug, augK_dat, s_asgI, asgK_own,
  List.getElem?_cons_zero, List.getElem?_cons_succ, List.set_cons_zero, List.set_cons_succ, wipeV, bd_add, bd_sub, bd_and, bd_or, bd_xor, ud_neg, cd_lt, cd_le, cd_gt, cd_ge, cd_eq, cd_ne, bf_min2, bf_max2, bf_lenL, bf_lenT, bf_int, bf_intB, bf_abs, bl_list, tr_int, tr_bool, tr_list, sq_list, sq_tup, tgSet, setNs, callF, List.length_cons, List.length_nil, List.nil_append, List.cons_append, if_true, if_false, reduceIte, Bool.false_eq_true, Nat.le_refl, Nat.zero_le, List.length_map, List.length_append, List.map_cons, List.map_nil, List.replicate, Nat.reduceAdd, Nat.reduceSub, at_fn, at_r, e0]
      have eb : exB Γ b_members_2 ⟨[.dat (ni m), .own 0, .any], [.lst (ks.map ni)]⟩ = some (.nx ⟨[.dat (ni (m &&& (m - 1))), .own 0, .dat (ni (2 ^ t))], [.lst ((ks ++ [t]).map ni)]⟩) := by
        rw [b_members_2]
        simp only [bindK_ok, bindK_ex, noxK_ok, seqK_ex, thenK_ex, thenK_ok, thenK_ex, seqK_nx, seqK_rt, seqK_bk, seqK_ct, seqK_ex, varK_dat, varK_own, ofK_some, toDK_lst, lstK_lst, bind_ap, nox_ap, then_ap, ret_ap, of_ap, view_ap, toD_dat, toD_own, toDs_nil, toDs_cons, views_nil, views_cons, tru_ap, lstAt_own, view_dat, view_own, viewK_lst, a_dat, a_var, a_bin, a_un, a_cmp, a_chn, a_and, a_or, andK_ap, orK_ap, chnK_ap, a_not, a_ite, iteK_ap, a_tup, a_lst, a_idx, a_cat, a_rep, a_slc, a_isi, a_blen, blenK_int, a_sortr, sortrK_list, a_call, a_bi, biK_some, a_com, comK_ok, es_nil, es_cons, ts_nil, ts_one, i_seq, i_enu, i_rng, b_nil, b_cons, s_asg, put_ap, s_ret, s_ite, ifK_ap, s_for, s_while, s_gc, s_raise, s_pass, s_app, s_aug, augK_dat, s_asgI, asgK_own,
  List.getElem?_cons_zero, List.getElem?_cons_succ, List.set_cons_zero, List.set_cons_succ, wipeV, bd_add, bd_sub, bd_and, bd_or, bd_xor, ud_neg, cd_lt, cd_le, cd_gt, cd_ge, cd_eq, cd_ne, bf_min2, bf_max2, bf_lenL, bf_lenT, bf_int, bf_intB, bf_abs, bl_list, tr_int, tr_bool, tr_list, sq_list, sq_tup, tgSet, setNs, callF, List.length_cons, List.length_nil, List.nil_append, List.cons_append, if_true, if_false, reduceIte, Bool.false_eq_true, Nat.le_refl, Nat.zero_le, List.length_map, List.length_append, List.map_cons, List.map_nil, List.replicate, Nat.reduceAdd, Nat.reduceSub, at_fn, at_r, elow, ebl, hn2, xor_c, h3, hr, gcM, List.map_append]
      rw [et]
      dsimp only
      rw [eb]
      dsimp only
      rw [show (ks ++ [t] ++ Eng.bits (m &&& (m - 1))) = ks ++ Eng.bits m by rw [h2, List.append_assoc]; rfl] at ih
      exact ih
def Φ_members : List SV → List ON → Option RO := runF (Gm0 subT) b_members 1 3
theorem members_run (m : Nat) (h : (Eng.bits m).length ≤ 20000) : Φ_members [.dat (ni m)] [] = some (.ret (.own 0) [.lst ((Eng.bits m).map ni)]) := by
  refine run_ret (sv := .own 0) (A := ⟨[.dat (ni 0), .own 0, .any], [.lst ((Eng.bits m).map ni)]⟩) rfl ?_ gc_own
  have h0 := fun A : AS => alloc_own (A := A) (ds := []) (by simp)
  have key := mem_loop (Γ := (Gm0 subT).at 0) rfl 1000000 m [] (by omega) (by simpa using h)
  unfold b_members
  simp only [bindK_ok, bindK_ex, noxK_ok, seqK_ex, thenK_ex, thenK_ok, thenK_ex, seqK_nx, seqK_rt, seqK_bk, seqK_ct, seqK_ex, varK_dat, varK_own, ofK_some, toDK_lst, lstK_lst, bind_ap, nox_ap, then_ap, ret_ap, of_ap, view_ap, toD_dat, toD_own, toDs_nil, toDs_cons, views_nil, views_cons, tru_ap, lstAt_own, view_dat, view_own, viewK_lst, a_dat, a_var, a_bin, a_un, a_cmp, a_chn, a_and, a_or, andK_ap, orK_ap, chnK_ap, a_not, a_ite, iteK_ap, a_tup, a_lst, a_idx, a_cat, a_rep, a_slc, a_isi, a_blen, blenK_int, a_sortr, sortrK_list, a_call, a_bi, biK_some, a_com, comK_ok, es_nil, es_cons, ts_nil, ts_one, i_seq, i_enu, i_rng, b_nil, b_cons, s_asg, put_ap, s_ret, s_ite, ifK_ap, s_for, s_while, s_gc, s_raise, s_pass, s_app, s_aug, augK_dat, s_asgI, asgK_own,
  List.getElem?_cons_zero, List.getElem?_cons_succ, List.set_cons_zero, List.set_cons_succ, wipeV, bd_add, bd_sub, bd_and, bd_or, bd_xor, ud_neg, cd_lt, cd_le, cd_gt, cd_ge, cd_eq, cd_ne, bf_min2, bf_max2, bf_lenL, bf_lenT, bf_int, bf_intB, bf_abs, bl_list, tr_int, tr_bool, tr_list, sq_list, sq_tup, tgSet, setNs, callF, List.length_cons, List.length_nil, List.nil_append, List.cons_append, if_true, if_false, reduceIte, Bool.false_eq_true, Nat.le_refl, Nat.zero_le, List.length_map, List.length_append, List.map_cons, List.map_nil, List.replicate, Nat.reduceAdd, Nat.reduceSub, at_fn, at_r, h0]
  rw [show ([] : List PyData) = ([] : List Nat).map ni from rfl, key]
  simp only [bindK_ok, bindK_ex, noxK_ok, seqK_ex, thenK_ex, thenK_ok, thenK_ex, seqK_nx, seqK_rt, seqK_bk, seqK_ct, seqK_ex, varK_dat, varK_own, ofK_some, toDK_lst, lstK_lst, bind_ap, nox_ap, then_ap, ret_ap, of_ap, view_ap, toD_dat, toD_own, toDs_nil, toDs_cons, views_nil, views_cons, tru_ap, lstAt_own, view_dat, view_own, viewK_lst, a_dat, a_var, a_bin, a_un, a_cmp, a_chn, a_and, a_or, andK_ap, orK_ap, chnK_ap, a_not, a_ite, iteK_ap, a_tup, a_lst, a_idx, a_cat, a_rep, a_slc, a_isi, a_blen, blenK_int, a_sortr, sortrK_list, a_call, a_bi, biK_some, a_com, comK_ok, es_nil, es_cons, ts_nil, ts_one, i_seq, i_enu, i_rng, b_nil, b_cons, s_asg, put_ap, s_ret, s_ite, ifK_ap, s_for, s_while, s_gc, s_raise, s_pass, s_app, s_aug, augK_dat, s_asgI, asgK_own,
  List.getElem?_cons_zero, List.getElem?_cons_succ, List.set_cons_zero, List.set_cons_succ, wipeV, bd_add, bd_sub, bd_and, bd_or, bd_xor, ud_neg, cd_lt, cd_le, cd_gt, cd_ge, cd_eq, cd_ne, bf_min2, bf_max2, bf_lenL, bf_lenT, bf_int, bf_intB, bf_abs, bl_list, tr_int, tr_bool, tr_list, sq_list, sq_tup, tgSet, setNs, callF, List.length_cons, List.length_nil, List.nil_append, List.cons_append, if_true, if_false, reduceIte, Bool.false_eq_true, Nat.le_refl, Nat.zero_le, List.length_map, List.length_append, List.map_cons, List.map_nil, List.replicate, Nat.reduceAdd, Nat.reduceSub, at_fn, at_r]
/-! ### combinations -/
def Γ2 : Gm := (((Gm0 subT).add "reduced" Φ_reduced).add "echelon" Φ_echelon).add "tagged" Φ_tagged
theorem Γ2_r : Γ2.fn "reduced" = Φ_reduced := by unfold Γ2; rw [Gm.add_ne (by decide), Gm.add_ne (by decide), Gm.add_same]
theorem Γ2_e : Γ2.fn "echelon" = Φ_echelon := by unfold Γ2; rw [Gm.add_ne (by decide), Gm.add_same]
theorem Γ2_t : Γ2.fn "tagged" = Φ_tagged := Gm.add_same
def Φ_least : List SV → List ON → Option RO := runF Γ2 b_least_combination 2 4
/-- what is left of a mask moved up -/
def lft (rows : List Nat) (m : Nat) : Nat := red (PB (tagsOf rows)) (m * 2 ^ rows.length)
theorem tags_len (rows : List Nat) : (tagsOf rows).length = rows.length := by simp [tagsOf]
theorem tags_lt (rows : List Nat) (hl : rows.length ≤ 1000) (hb : ∀ r ∈ rows, r < 2 ^ 10000) : ∀ t ∈ tagsOf rows, t < 2 ^ 20000 := by
  intro t ht
  unfold tagsOf at ht
  obtain ⟨i, hi, e⟩ := List.mem_mapIdx.mp ht
  rw [← e]
  have h1 := hb _ (List.getElem_mem hi)
  have h2 : rows[i] * 2 ^ rows.length < 2 ^ 20000 := by
    calc rows[i] * 2 ^ rows.length < 2 ^ 10000 * 2 ^ rows.length := Nat.mul_lt_mul_of_pos_right h1 (Nat.pow_pos (by decide))
      _ = 2 ^ (10000 + rows.length) := (Nat.pow_add ..).symm
      _ ≤ 2 ^ 20000 := Nat.pow_le_pow_right (by decide) (by omega)
  exact Nat.or_lt_two_pow h2 (Nat.pow_lt_pow_right (by decide) (by omega))
theorem run_ex {Γ : Gm} {body : List Sm} {n m : Nat} {ss : List SV} {μ μ' : List ON} {A : AS} {C : Str} (hl : ss.length = n) (h : exB (Γ.at μ.length) body ⟨ss ++ List.replicate (m - n) .any, μ⟩ = some (.ex C A)) (hs : (Γ.sub C C).isSome = true) (hg : (gcA μ.length ⟨[], A.μ⟩).μ = μ') : runF Γ body n m ss μ = some (.ex C μ') := by
  have h : exB { Γ with r := μ.length } body ⟨ss ++ List.replicate (m - n) .any, μ⟩ = some (.ex C A) := h
  unfold runF
  rw [if_pos hl, h]
  dsimp only
  rw [if_pos hs, hg]
theorem least_run (rows : List Nat) (m : Nat) (hl : rows.length ≤ 1000) (hb : ∀ r ∈ rows, r < 2 ^ 10000) (hm : m < 2 ^ 10000) : Φ_least [.dat (nl rows), .dat (ni m)] [] = if lft rows m / 2 ^ rows.length = 0 then some (.ret (.dat (ni (lft rows m))) []) else some (.ex "NoSolution" []) := by
  obtain ⟨C, h1, h2, h3⟩ := echelon_run (tagsOf rows) (by rw [tags_len]; omega) (tags_lt rows hl hb)
  have hsh : Builtin.Int.intBits (m : Int) + rows.length ≤ 2 ^ 27 := Nat.le_trans (Nat.add_le_add (Eng.intBits_lt hm) hl) (by decide)
  have hred : red C (m * 2 ^ rows.length) = lft rows m := Eng.red_perm (Eng.bas_PB _) h1
  have ht := tagged_run rows hl hb
  by_cases h0 : lft rows m / 2 ^ rows.length = 0
  · rw [if_pos h0]
    have e0 : (((lft rows m / 2 ^ rows.length : Nat) : Int) != 0) = false := by rw [h0]; rfl
    refine run_ret (sv := .dat (ni (lft rows m))) (A := ⟨[.dat (nl rows), .dat (ni m), .dat (ni rows.length), .dat (ni (lft rows m))], []⟩) rfl ?_ gc_dat
    unfold b_least_combination
    simp only [bindK_ok, bindK_ex, noxK_ok, seqK_ex, thenK_ex, thenK_ok, thenK_ex, seqK_nx, seqK_rt, seqK_bk, seqK_ct, seqK_ex, varK_dat, varK_own, ofK_some, toDK_lst, lstK_lst, bind_ap, nox_ap, then_ap, ret_ap, of_ap, view_ap, toD_dat, toD_own, toDs_nil, toDs_cons, views_nil, views_cons, tru_ap, lstAt_own, view_dat, view_own, viewK_lst, a_dat, a_var, a_bin, a_un, a_cmp, a_chn, a_and, a_or, andK_ap, orK_ap, chnK_ap, a_not, a_ite, iteK_ap, a_tup, a_lst, a_idx, a_cat, a_rep, a_slc, a_isi, a_blen, blenK_int, a_sortr, sortrK_list, a_call, a_bi, biK_some, a_com, comK_ok, es_nil, es_cons, ts_nil, ts_one, i_seq, i_enu, i_rng, b_nil, b_cons, s_asg, put_ap, s_ret, s_ite, ifK_ap, s_for, s_while, s_gc, s_raise, s_pass, s_app, s_aug, augK_dat, s_asgI, asgK_own,
  List.getElem?_cons_zero, List.getElem?_cons_succ, List.set_cons_zero, List.set_cons_succ, wipeV, bd_add, bd_sub, bd_and, bd_or, bd_xor, ud_neg, cd_lt, cd_le, cd_gt, cd_ge, cd_eq, cd_ne, bf_min2, bf_max2, bf_lenL, bf_lenT, bf_int, bf_intB, bf_abs, bl_list, tr_int, tr_bool, tr_list, sq_list, sq_tup, tgSet, setNs, callF, List.length_cons, List.length_nil, List.nil_append, List.cons_append, if_true, if_false, reduceIte, Bool.false_eq_true, Nat.le_refl, Nat.zero_le, List.length_map, List.length_append, List.map_cons, List.map_nil, List.replicate, Nat.reduceAdd, Nat.reduceSub, at_fn, at_r, Γ2_r, Γ2_e, Γ2_t, ht, plain_frz, h3, shl_c hsh, reduced_run, plain_dat, hred, shr_c, e0]
  · rw [if_neg h0]
    have e0 : (((lft rows m / 2 ^ rows.length : Nat) : Int) != 0) = true := bne_iff_ne.mpr fun z => h0 (by exact_mod_cast z)
    refine run_ex (A := ⟨[.dat (nl rows), .dat (ni m), .dat (ni rows.length), .dat (ni (lft rows m))], []⟩) rfl ?_ (by decide) rfl
    unfold b_least_combination
    simp only [bindK_ok, bindK_ex, noxK_ok, seqK_ex, thenK_ex, thenK_ok, thenK_ex, seqK_nx, seqK_rt, seqK_bk, seqK_ct, seqK_ex, varK_dat, varK_own, ofK_some, toDK_lst, lstK_lst, bind_ap, nox_ap, then_ap, ret_ap, of_ap, view_ap, toD_dat, toD_own, toDs_nil, toDs_cons, views_nil, views_cons, tru_ap, lstAt_own, view_dat, view_own, viewK_lst, a_dat, a_var, a_bin, a_un, a_cmp, a_chn, a_and, a_or, andK_ap, orK_ap, chnK_ap, a_not, a_ite, iteK_ap, a_tup, a_lst, a_idx, a_cat, a_rep, a_slc, a_isi, a_blen, blenK_int, a_sortr, sortrK_list, a_call, a_bi, biK_some, a_com, comK_ok, es_nil, es_cons, ts_nil, ts_one, i_seq, i_enu, i_rng, b_nil, b_cons, s_asg, put_ap, s_ret, s_ite, ifK_ap, s_for, s_while, s_gc, s_raise, s_pass, s_app, s_aug, augK_dat, s_asgI, asgK_own,
  List.getElem?_cons_zero, List.getElem?_cons_succ, List.set_cons_zero, List.set_cons_succ, wipeV, bd_add, bd_sub, bd_and, bd_or, bd_xor, ud_neg, cd_lt, cd_le, cd_gt, cd_ge, cd_eq, cd_ne, bf_min2, bf_max2, bf_lenL, bf_lenT, bf_int, bf_intB, bf_abs, bl_list, tr_int, tr_bool, tr_list, sq_list, sq_tup, tgSet, setNs, callF, List.length_cons, List.length_nil, List.nil_append, List.cons_append, if_true, if_false, reduceIte, Bool.false_eq_true, Nat.le_refl, Nat.zero_le, List.length_map, List.length_append, List.map_cons, List.map_nil, List.replicate, Nat.reduceAdd, Nat.reduceSub, at_fn, at_r, Γ2_r, Γ2_e, Γ2_t, ht, plain_frz, h3, shl_c hsh, reduced_run, plain_dat, hred, shr_c, e0]
theorem lft_bits (rows : List Nat) (m : Nat) (hl : rows.length ≤ 1000) (h : lft rows m / 2 ^ rows.length = 0) : (Eng.bits (lft rows m)).length ≤ 1000 := by
  have hlt : lft rows m < 2 ^ rows.length := (Nat.div_eq_zero_iff_lt (Nat.pow_pos (by decide))).mp h
  rw [Eng.bits_filter rows.length _ hlt]
  exact Nat.le_trans (List.length_filter_le _ _) (by rw [List.length_range]; exact hl)
def Γ3 : Gm := (Γ2.add "least_combination" Φ_least).add "members" Φ_members
theorem Γ3_l : Γ3.fn "least_combination" = Φ_least := by unfold Γ3; rw [Gm.add_ne (by decide), Gm.add_same]
theorem Γ3_m : Γ3.fn "members" = Φ_members := Gm.add_same
def Φ_comb : List SV → List ON → Option RO := runF Γ3 b_combination 2 2
theorem plain_ex {fr : Bool} {C : Str} {A : AS} : plainO fr A (some (.ex C [])) = some (.ex C A) := by simp [plainO]
theorem comb_run (rows : List Nat) (m : Nat) (hl : rows.length ≤ 1000) (hb : ∀ r ∈ rows, r < 2 ^ 10000) (hm : m < 2 ^ 10000) : Φ_comb [.dat (nl rows), .dat (ni m)] [] = if lft rows m / 2 ^ rows.length = 0 then some (.ret (.own 0) [.lst ((Eng.bits (lft rows m)).map ni)]) else some (.ex "NoSolution" []) := by
  have hle := least_run rows m hl hb hm
  by_cases h0 : lft rows m / 2 ^ rows.length = 0
  · rw [if_pos h0]
    rw [if_pos h0] at hle
    have hmem := members_run (lft rows m) (Nat.le_trans (lft_bits rows m hl h0) (by decide))
    refine run_ret (sv := .own 0) (A := ⟨[.dat (nl rows), .dat (ni m)], [.lst ((Eng.bits (lft rows m)).map ni)]⟩) rfl ?_ gc_own
    unfold b_combination
    simp only [bindK_ok, bindK_ex, noxK_ok, seqK_ex, thenK_ex, thenK_ok, thenK_ex, seqK_nx, seqK_rt, seqK_bk, seqK_ct, seqK_ex, varK_dat, varK_own, ofK_some, toDK_lst, lstK_lst, bind_ap, nox_ap, then_ap, ret_ap, of_ap, view_ap, toD_dat, toD_own, toDs_nil, toDs_cons, views_nil, views_cons, tru_ap, lstAt_own, view_dat, view_own, viewK_lst, a_dat, a_var, a_bin, a_un, a_cmp, a_chn, a_and, a_or, andK_ap, orK_ap, chnK_ap, a_not, a_ite, iteK_ap, a_tup, a_lst, a_idx, a_cat, a_rep, a_slc, a_isi, a_blen, blenK_int, a_sortr, sortrK_list, a_call, a_bi, biK_some, a_com, comK_ok, es_nil, es_cons, ts_nil, ts_one, i_seq, i_enu, i_rng, b_nil, b_cons, s_asg, put_ap, s_ret, s_ite, ifK_ap, s_for, s_while, s_gc, s_raise, s_pass, s_app, s_aug, augK_dat, s_asgI, asgK_own,
  List.getElem?_cons_zero, List.getElem?_cons_succ, List.set_cons_zero, List.set_cons_succ, wipeV, bd_add, bd_sub, bd_and, bd_or, bd_xor, ud_neg, cd_lt, cd_le, cd_gt, cd_ge, cd_eq, cd_ne, bf_min2, bf_max2, bf_lenL, bf_lenT, bf_int, bf_intB, bf_abs, bl_list, tr_int, tr_bool, tr_list, sq_list, sq_tup, tgSet, setNs, callF, List.length_cons, List.length_nil, List.nil_append, List.cons_append, if_true, if_false, reduceIte, Bool.false_eq_true, Nat.le_refl, Nat.zero_le, List.length_map, List.length_append, List.map_cons, List.map_nil, List.replicate, Nat.reduceAdd, Nat.reduceSub, at_fn, at_r, Γ3_l, Γ3_m, hle, plain_dat, hmem, plain_own]
  · rw [if_neg h0]
    rw [if_neg h0] at hle
    refine run_ex (A := ⟨[.dat (nl rows), .dat (ni m)], []⟩) rfl ?_ (by decide) rfl
    unfold b_combination
    simp only [bindK_ok, bindK_ex, noxK_ok, seqK_ex, thenK_ex, thenK_ok, thenK_ex, seqK_nx, seqK_rt, seqK_bk, seqK_ct, seqK_ex, varK_dat, varK_own, ofK_some, toDK_lst, lstK_lst, bind_ap, nox_ap, then_ap, ret_ap, of_ap, view_ap, toD_dat, toD_own, toDs_nil, toDs_cons, views_nil, views_cons, tru_ap, lstAt_own, view_dat, view_own, viewK_lst, a_dat, a_var, a_bin, a_un, a_cmp, a_chn, a_and, a_or, andK_ap, orK_ap, chnK_ap, a_not, a_ite, iteK_ap, a_tup, a_lst, a_idx, a_cat, a_rep, a_slc, a_isi, a_blen, blenK_int, a_sortr, sortrK_list, a_call, a_bi, biK_some, a_com, comK_ok, es_nil, es_cons, ts_nil, ts_one, i_seq, i_enu, i_rng, b_nil, b_cons, s_asg, put_ap, s_ret, s_ite, ifK_ap, s_for, s_while, s_gc, s_raise, s_pass, s_app, s_aug, augK_dat, s_asgI, asgK_own,
  List.getElem?_cons_zero, List.getElem?_cons_succ, List.set_cons_zero, List.set_cons_succ, wipeV, bd_add, bd_sub, bd_and, bd_or, bd_xor, ud_neg, cd_lt, cd_le, cd_gt, cd_ge, cd_eq, cd_ne, bf_min2, bf_max2, bf_lenL, bf_lenT, bf_int, bf_intB, bf_abs, bl_list, tr_int, tr_bool, tr_list, sq_list, sq_tup, tgSet, setNs, callF, List.length_cons, List.length_nil, List.nil_append, List.cons_append, if_true, if_false, reduceIte, Bool.false_eq_true, Nat.le_refl, Nat.zero_le, List.length_map, List.length_append, List.map_cons, List.map_nil, List.replicate, Nat.reduceAdd, Nat.reduceSub, at_fn, at_r, Γ3_l, Γ3_m, hle, plain_ex]
end Pf

set_option Elab.async false
set_option linter.all false
set_option maxRecDepth 100000
set_option maxHeartbeats 4000000
namespace Pf
open PySem PySem.Spec PyProof.Rows L2 Py
open Eng (red rstep PB Bas ext elim lead ext_len PB_len nats_of)
open Evl (Ex)
theorem bd_mul {i k : Int} (h : k.natAbs.log2 < 64) : binD .Mult (.int i) (.int k) = some (.int (i * k)) := if_pos (.inr h)
theorem bd_mod {i j : Int} (h : 0 < j) : binD .Mod (.int i) (.int j) = some (.int (i % j)) := if_pos h
theorem bd_fdiv {i j : Int} (h : 0 < j ∧ j.natAbs.log2 < 9000) : binD .FloorDiv (.int i) (.int j) = some (.int (i / j)) := if_pos h
/-! ### a number of one cell -/
def Φ_spread : List SV → List ON → Option RO := runF (Gm0 subT) b__law_spread 1 4
theorem spread_loop {Γ : Gm} : ∀ (ds : List Int) (a b c : Int), ∃ b' c', forGo (.nm 3) [3] (exB Γ b__law_spread_1) (ds.map .int) ⟨[.dat (.int a), .dat (.int b), .dat (.int c), .any], []⟩ = some (.nx ⟨[.dat (.int a), .dat (.int b'), .dat (.int c'), .any], []⟩)
  | [], a, b, c => ⟨b, c, rfl⟩
  | d :: ds, a, b, c => by
    obtain ⟨b', c', ih⟩ := spread_loop (Γ := Γ) ds a ((b * 48271 + 12345 + d) % 2147483647) (c * 2147483647 + ((b * 48271 + 12345 + d) % 2147483647))
    refine ⟨b', c', ?_⟩
    rw [List.map_cons, forGo, b__law_spread_1] at *
    simp only [bindK_ok, bindK_ex, noxK_ok, seqK_ex, thenK_ex, thenK_ok, thenK_ex, seqK_nx, seqK_rt, seqK_bk, seqK_ct, seqK_ex, varK_dat, varK_own, ofK_some, toDK_lst, lstK_lst, bind_ap, nox_ap, then_ap, ret_ap, of_ap, view_ap, toD_dat, toD_own, toDs_nil, toDs_cons, views_nil, views_cons, tru_ap, lstAt_own, view_dat, view_own, viewK_lst, a_dat, a_var, a_bin, a_un, a_cmp, a_chn, a_and, a_or, andK_ap, orK_ap, chnK_ap, a_not, a_ite, iteK_ap, a_tup, a_lst, a_idx, a_cat, a_rep, a_slc, a_isi, a_blen, blenK_int, a_sortr, sortrK_list, a_call, a_bi, biK_some, a_com, comK_ok, es_nil, es_cons, ts_nil, ts_one, i_seq, i_enu, i_rng, b_nil, b_cons, s_asg, put_ap, s_ret, s_ite, ifK_ap, s_for, s_while, s_gc, s_raise, s_pass, s_app, s_aug, augK_dat, s_asgI, asgK_own,
  List.getElem?_cons_zero, List.getElem?_cons_succ, List.set_cons_zero, List.set_cons_succ, wipeV, bd_add, bd_sub, bd_and, bd_or, bd_xor, ud_neg, cd_lt, cd_le, cd_gt, cd_ge, cd_eq, cd_ne, bf_min2, bf_max2, bf_lenL, bf_lenT, bf_int, bf_intB, bf_abs, bl_list, tr_int, tr_bool, tr_list, sq_list, sq_tup, tgSet, setNs, callF, List.length_cons, List.length_nil, List.nil_append, List.cons_append, if_true, if_false, reduceIte, Bool.false_eq_true, Nat.le_refl, Nat.zero_le, List.length_map, List.length_append, List.map_cons, List.map_nil, List.replicate, Nat.reduceAdd, Nat.reduceSub, at_fn, at_r, bd_mul (k := 48271) (by decide), bd_mul (k := 2147483647) (by decide), bd_mod (j := 2147483647) (by decide)]
    exact ih
theorem rng4 : rngD 0 (4 : Int).toNat = ([0, 1, 2, 3] : List Int).map .int := rfl
theorem spread_run (a : Int) : ∃ t : Int, Φ_spread [.dat (.int a)] [] = some (.ret (.dat (.int t)) []) := by
  obtain ⟨b', c', h⟩ := spread_loop (Γ := (Gm0 subT).at 0) [0, 1, 2, 3] a (a % 2147483647) 1
  refine ⟨c', run_ret (sv := .dat (.int c')) (A := ⟨[.dat (.int a), .dat (.int b'), .dat (.int c'), .any], []⟩) rfl ?_ gc_dat⟩
  unfold b__law_spread
  simp only [bindK_ok, bindK_ex, noxK_ok, seqK_ex, thenK_ex, thenK_ok, thenK_ex, seqK_nx, seqK_rt, seqK_bk, seqK_ct, seqK_ex, varK_dat, varK_own, ofK_some, toDK_lst, lstK_lst, bind_ap, nox_ap, then_ap, ret_ap, of_ap, view_ap, toD_dat, toD_own, toDs_nil, toDs_cons, views_nil, views_cons, tru_ap, lstAt_own, view_dat, view_own, viewK_lst, a_dat, a_var, a_bin, a_un, a_cmp, a_chn, a_and, a_or, andK_ap, orK_ap, chnK_ap, a_not, a_ite, iteK_ap, a_tup, a_lst, a_idx, a_cat, a_rep, a_slc, a_isi, a_blen, blenK_int, a_sortr, sortrK_list, a_call, a_bi, biK_some, a_com, comK_ok, es_nil, es_cons, ts_nil, ts_one, i_seq, i_enu, i_rng, b_nil, b_cons, s_asg, put_ap, s_ret, s_ite, ifK_ap, s_for, s_while, s_gc, s_raise, s_pass, s_app, s_aug, augK_dat, s_asgI, asgK_own,
  List.getElem?_cons_zero, List.getElem?_cons_succ, List.set_cons_zero, List.set_cons_succ, wipeV, bd_add, bd_sub, bd_and, bd_or, bd_xor, ud_neg, cd_lt, cd_le, cd_gt, cd_ge, cd_eq, cd_ne, bf_min2, bf_max2, bf_lenL, bf_lenT, bf_int, bf_intB, bf_abs, bl_list, tr_int, tr_bool, tr_list, sq_list, sq_tup, tgSet, setNs, callF, List.length_cons, List.length_nil, List.nil_append, List.cons_append, if_true, if_false, reduceIte, Bool.false_eq_true, Nat.le_refl, Nat.zero_le, List.length_map, List.length_append, List.map_cons, List.map_nil, List.replicate, Nat.reduceAdd, Nat.reduceSub, at_fn, at_r, bd_mod (j := 2147483647) (by decide), rngK_int (n := 4) (by decide), rng4]
  have h2 := h
  simp only [List.map_cons, List.map_nil] at h2
  simp only [bindK_ok, bindK_ex, noxK_ok, seqK_ex, thenK_ex, thenK_ok, thenK_ex, seqK_nx, seqK_rt, seqK_bk, seqK_ct, seqK_ex, varK_dat, varK_own, ofK_some, toDK_lst, lstK_lst, bind_ap, nox_ap, then_ap, ret_ap, of_ap, view_ap, toD_dat, toD_own, toDs_nil, toDs_cons, views_nil, views_cons, tru_ap, lstAt_own, view_dat, view_own, viewK_lst, a_dat, a_var, a_bin, a_un, a_cmp, a_chn, a_and, a_or, andK_ap, orK_ap, chnK_ap, a_not, a_ite, iteK_ap, a_tup, a_lst, a_idx, a_cat, a_rep, a_slc, a_isi, a_blen, blenK_int, a_sortr, sortrK_list, a_call, a_bi, biK_some, a_com, comK_ok, es_nil, es_cons, ts_nil, ts_one, i_seq, i_enu, i_rng, b_nil, b_cons, s_asg, put_ap, s_ret, s_ite, ifK_ap, s_for, s_while, s_gc, s_raise, s_pass, s_app, s_aug, augK_dat, s_asgI, asgK_own,
  List.getElem?_cons_zero, List.getElem?_cons_succ, List.set_cons_zero, List.set_cons_succ, wipeV, bd_add, bd_sub, bd_and, bd_or, bd_xor, ud_neg, cd_lt, cd_le, cd_gt, cd_ge, cd_eq, cd_ne, bf_min2, bf_max2, bf_lenL, bf_lenT, bf_int, bf_intB, bf_abs, bl_list, tr_int, tr_bool, tr_list, sq_list, sq_tup, tgSet, setNs, callF, List.length_cons, List.length_nil, List.nil_append, List.cons_append, if_true, if_false, reduceIte, Bool.false_eq_true, Nat.le_refl, Nat.zero_le, List.length_map, List.length_append, List.map_cons, List.map_nil, List.replicate, Nat.reduceAdd, Nat.reduceSub, at_fn, at_r, h2]
/-! ### the pool -/
def pl (ns : List Int) (p1 : Nat) (p2 p3 p4 : Int) : List PyData := [.list (ns.map .int), ni p1, .int p2, .int p3, .int p4]
def Φ_pool : List SV → List ON → Option RO := runF (Gm0 subT) b__law_pool 1 3
theorem pool_loop {Γ : Gm} {x : PyData} : ∀ (ds : List Int) (b : Int), ∃ b', forGo (.nm 2) [2] (exB Γ b__law_pool_1) (ds.map .int) ⟨[.dat x, .dat (.int b), .any], []⟩ = some (.nx ⟨[.dat x, .dat (.int b'), .any], []⟩)
  | [], b => ⟨b, rfl⟩
  | d :: ds, b => by
    obtain ⟨b', ih⟩ := pool_loop (Γ := Γ) (x := x) ds ((b * 31 + d) % 1000003)
    refine ⟨b', ?_⟩
    rw [List.map_cons, forGo, b__law_pool_1] at *
    simp only [bindK_ok, bindK_ex, noxK_ok, seqK_ex, thenK_ex, thenK_ok, thenK_ex, seqK_nx, seqK_rt, seqK_bk, seqK_ct, seqK_ex, varK_dat, varK_own, ofK_some, toDK_lst, lstK_lst, bind_ap, nox_ap, then_ap, ret_ap, of_ap, view_ap, toD_dat, toD_own, toDs_nil, toDs_cons, views_nil, views_cons, tru_ap, lstAt_own, view_dat, view_own, viewK_lst, a_dat, a_var, a_bin, a_un, a_cmp, a_chn, a_and, a_or, andK_ap, orK_ap, chnK_ap, a_not, a_ite, iteK_ap, a_tup, a_lst, a_idx, a_cat, a_rep, a_slc, a_isi, a_blen, blenK_int, a_sortr, sortrK_list, a_call, a_bi, biK_some, a_com, comK_ok, es_nil, es_cons, ts_nil, ts_one, i_seq, i_enu, i_rng, b_nil, b_cons, s_asg, put_ap, s_ret, s_ite, ifK_ap, s_for, s_while, s_gc, s_raise, s_pass, s_app, s_aug, augK_dat, s_asgI, asgK_own,
  List.getElem?_cons_zero, List.getElem?_cons_succ, List.set_cons_zero, List.set_cons_succ, wipeV, bd_add, bd_sub, bd_and, bd_or, bd_xor, ud_neg, cd_lt, cd_le, cd_gt, cd_ge, cd_eq, cd_ne, bf_min2, bf_max2, bf_lenL, bf_lenT, bf_int, bf_intB, bf_abs, bl_list, tr_int, tr_bool, tr_list, sq_list, sq_tup, tgSet, setNs, callF, List.length_cons, List.length_nil, List.nil_append, List.cons_append, if_true, if_false, reduceIte, Bool.false_eq_true, Nat.le_refl, Nat.zero_le, List.length_map, List.length_append, List.map_cons, List.map_nil, List.replicate, Nat.reduceAdd, Nat.reduceSub, at_fn, at_r, bd_mul (k := 31) (by decide), bd_mod (j := 1000003) (by decide)]
    exact ih
theorem eo_nil {Γ : Gm} {A : AS} : evO Γ .nil A = some (.ok none A) := rfl
theorem eo_int {Γ : Gm} {A : AS} {i : Int} : evO Γ (.cons (.dat (.int i)) .nil) A = some (.ok (some i) A) := rfl
theorem sl_list {l : List PyData} {lo hi : Option Int} : slD (.list l) lo hi = some (.list (Py.cutD l lo hi)) := rfl
theorem cut_ints (ns : List Int) (lo hi : Option Int) : ∃ ms : List Int, Py.cutD (ns.map .int) lo hi = ms.map .int := ⟨_, by unfold Py.cutD; rw [← List.map_drop, ← List.map_take]⟩
theorem pool_run (ns : List Int) (hl : ns.length ≤ 63) : ∃ p4 : Int, Φ_pool [.dat (.list (ns.map .int))] [] = some (.ret (.own 0) [.lst (pl ns 0 0 0 p4)]) := by
  obtain ⟨ms, hms⟩ := cut_ints ns none (some 63)
  obtain ⟨b', h⟩ := pool_loop (Γ := (Gm0 subT).at 0) (x := .list (ns.map .int)) ms 7
  have ha := fun A : AS => alloc_dat (A := A) (ds := ns.map PyData.int) (by simp; omega)
  have ha2 := fun A : AS => alloc_own (A := A) (ds := pl ns 0 0 0 b') (by simp [pl])
  refine ⟨b', run_ret (sv := .own 0) (A := ⟨[.dat (.list (ns.map .int)), .dat (.int b'), .any], [.lst (pl ns 0 0 0 b')]⟩) rfl ?_ gc_own⟩
  unfold b__law_pool
  simp only [bindK_ok, bindK_ex, noxK_ok, seqK_ex, thenK_ex, thenK_ok, thenK_ex, seqK_nx, seqK_rt, seqK_bk, seqK_ct, seqK_ex, varK_dat, varK_own, ofK_some, toDK_lst, lstK_lst, bind_ap, nox_ap, then_ap, ret_ap, of_ap, view_ap, toD_dat, toD_own, toDs_nil, toDs_cons, views_nil, views_cons, tru_ap, lstAt_own, view_dat, view_own, viewK_lst, a_dat, a_var, a_bin, a_un, a_cmp, a_chn, a_and, a_or, andK_ap, orK_ap, chnK_ap, a_not, a_ite, iteK_ap, a_tup, a_lst, a_idx, a_cat, a_rep, a_slc, a_isi, a_blen, blenK_int, a_sortr, sortrK_list, a_call, a_bi, biK_some, a_com, comK_ok, es_nil, es_cons, ts_nil, ts_one, i_seq, i_enu, i_rng, b_nil, b_cons, s_asg, put_ap, s_ret, s_ite, ifK_ap, s_for, s_while, s_gc, s_raise, s_pass, s_app, s_aug, augK_dat, s_asgI, asgK_own,
  List.getElem?_cons_zero, List.getElem?_cons_succ, List.set_cons_zero, List.set_cons_succ, wipeV, bd_add, bd_sub, bd_and, bd_or, bd_xor, ud_neg, cd_lt, cd_le, cd_gt, cd_ge, cd_eq, cd_ne, bf_min2, bf_max2, bf_lenL, bf_lenT, bf_int, bf_intB, bf_abs, bl_list, tr_int, tr_bool, tr_list, sq_list, sq_tup, tgSet, setNs, callF, List.length_cons, List.length_nil, List.nil_append, List.cons_append, if_true, if_false, reduceIte, Bool.false_eq_true, Nat.le_refl, Nat.zero_le, List.length_map, List.length_append, List.map_cons, List.map_nil, List.replicate, Nat.reduceAdd, Nat.reduceSub, at_fn, at_r, eo_nil, eo_int, sl_list, hms, h, ha]
  rw [show [PyData.list (ns.map PyData.int), .int 0, .int 0, .int 0, .int b'] = pl ns 0 0 0 b' from rfl, ha2]
  simp only [bindK_ok, bindK_ex, noxK_ok, seqK_ex, thenK_ex, thenK_ok, thenK_ex, seqK_nx, seqK_rt, seqK_bk, seqK_ct, seqK_ex, varK_dat, varK_own, ofK_some, toDK_lst, lstK_lst, bind_ap, nox_ap, then_ap, ret_ap, of_ap, view_ap, toD_dat, toD_own, toDs_nil, toDs_cons, views_nil, views_cons, tru_ap, lstAt_own, view_dat, view_own, viewK_lst, a_dat, a_var, a_bin, a_un, a_cmp, a_chn, a_and, a_or, andK_ap, orK_ap, chnK_ap, a_not, a_ite, iteK_ap, a_tup, a_lst, a_idx, a_cat, a_rep, a_slc, a_isi, a_blen, blenK_int, a_sortr, sortrK_list, a_call, a_bi, biK_some, a_com, comK_ok, es_nil, es_cons, ts_nil, ts_one, i_seq, i_enu, i_rng, b_nil, b_cons, s_asg, put_ap, s_ret, s_ite, ifK_ap, s_for, s_while, s_gc, s_raise, s_pass, s_app, s_aug, augK_dat, s_asgI, asgK_own,
  List.getElem?_cons_zero, List.getElem?_cons_succ, List.set_cons_zero, List.set_cons_succ, wipeV, bd_add, bd_sub, bd_and, bd_or, bd_xor, ud_neg, cd_lt, cd_le, cd_gt, cd_ge, cd_eq, cd_ne, bf_min2, bf_max2, bf_lenL, bf_lenT, bf_int, bf_intB, bf_abs, bl_list, tr_int, tr_bool, tr_list, sq_list, sq_tup, tgSet, setNs, callF, List.length_cons, List.length_nil, List.nil_append, List.cons_append, if_true, if_false, reduceIte, Bool.false_eq_true, Nat.le_refl, Nat.zero_le, List.length_map, List.length_append, List.map_cons, List.map_nil, List.replicate, Nat.reduceAdd, Nat.reduceSub, at_fn, at_r]
/-! ### draws -/
theorem ix0 {a b c d e : PyData} : ixD (.list [a, b, c, d, e]) (.int 0) = some a := rfl
theorem ix1 {a b c d e : PyData} : ixD (.list [a, b, c, d, e]) (.int 1) = some b := rfl
theorem ix2 {a b c d e : PyData} : ixD (.list [a, b, c, d, e]) (.int 2) = some c := rfl
theorem ix3 {a b c d e : PyData} : ixD (.list [a, b, c, d, e]) (.int 3) = some d := rfl
theorem ix4 {a b c d e : PyData} : ixD (.list [a, b, c, d, e]) (.int 4) = some e := rfl
theorem st1 {a b c d e x : PyData} {A : AS} : setK 0 1 x A (some (.lst [a, b, c, d, e])) = some (.nx ⟨A.ρ, A.μ.set 0 (.lst [a, x, c, d, e])⟩) := rfl
theorem st2 {a b c d e x : PyData} {A : AS} : setK 0 2 x A (some (.lst [a, b, c, d, e])) = some (.nx ⟨A.ρ, A.μ.set 0 (.lst [a, b, x, d, e])⟩) := rfl
theorem st3 {a b c d e x : PyData} {A : AS} : setK 0 3 x A (some (.lst [a, b, c, d, e])) = some (.nx ⟨A.ρ, A.μ.set 0 (.lst [a, b, c, x, e])⟩) := rfl
def Γd : Gm := (Gm0 subT).add "_law_spread" Φ_spread
theorem Γd_s : Γd.fn "_law_spread" = Φ_spread := Gm.add_same
def Φ_draw : List SV → List ON → Option RO := runF Γd b__law_draw 2 5
theorem cast_ni {i : Int} {n : Nat} (h0 : 0 ≤ i) (h : i < n) : ∃ v : Nat, v < n ∧ i = v := ⟨i.toNat, by omega, by omega⟩
theorem draw_run (ns : List Int) (p1 : Nat) (p2 p3 p4 : Int) (n : Nat) (hn : 0 < n) (hb : n < 2 ^ 1000) : ∃ (v q1 : Nat) (q2 q3 : Int), v < n ∧ Φ_draw [.own 0, .dat (ni n)] [.lst (pl ns p1 p2 p3 p4)] = some (.ret (.dat (ni v)) [.lst (pl ns q1 q2 q3 p4)]) := by
  have hn0 : (0 : Int) < (n : Int) := by omega
  have hlog : (0 : Int) < (n : Int) ∧ (n : Int).natAbs.log2 < 9000 := ⟨hn0, by
    rw [Int.natAbs_natCast]
    by_cases z : n = 0
    · omega
    · have := (Nat.log2_lt z).mpr hb
      omega⟩
  have main : ∀ (x : SV) (q1 : Nat) (q2 : Int), ∃ (v : Nat) (r2 r3 : Int) (y z : SV), v < n ∧ exB (Γd.at 1) (b__law_draw.tail) ⟨[.own 0, .dat (ni n), x, .any, .any], [.lst (pl ns q1 q2 p3 p4)]⟩ = some (.rt (.dat (ni v)) ⟨[.own 0, .dat (ni n), x, y, z], [.lst (pl ns q1 r2 r3 p4)]⟩) := by
    intro x q1 q2
    by_cases hc : q2 ≤ 0
    · obtain ⟨v, h1, h2⟩ := cast_ni (Int.emod_nonneg ((((p4 * 48271 + (p3 + 1) * 69621 + 1) % 2147483647) * 16807 + (p3 + 1)) % 2147483629 / 5) (by omega : (n : Int) ≠ 0)) (Int.emod_lt_of_pos _ hn0)
      refine ⟨v, q2, p3 + 1, .dat (.int (((p4 * 48271 + (p3 + 1) * 69621 + 1) % 2147483647 * 16807 + (p3 + 1)) % 2147483629)), .any, h1, ?_⟩
      have hd : decide (q2 ≤ 0) = true := decide_eq_true hc
      unfold b__law_draw pl
      simp only [bindK_ok, bindK_ex, noxK_ok, seqK_ex, thenK_ex, thenK_ok, thenK_ex, seqK_nx, seqK_rt, seqK_bk, seqK_ct, seqK_ex, varK_dat, varK_own, ofK_some, toDK_lst, lstK_lst, bind_ap, nox_ap, then_ap, ret_ap, of_ap, view_ap, toD_dat, toD_own, toDs_nil, toDs_cons, views_nil, views_cons, tru_ap, lstAt_own, view_dat, view_own, viewK_lst, a_dat, a_var, a_bin, a_un, a_cmp, a_chn, a_and, a_or, andK_ap, orK_ap, chnK_ap, a_not, a_ite, iteK_ap, a_tup, a_lst, a_idx, a_cat, a_rep, a_slc, a_isi, a_blen, blenK_int, a_sortr, sortrK_list, a_call, a_bi, biK_some, a_com, comK_ok, es_nil, es_cons, ts_nil, ts_one, i_seq, i_enu, i_rng, b_nil, b_cons, s_asg, put_ap, s_ret, s_ite, ifK_ap, s_for, s_while, s_gc, s_raise, s_pass, s_app, s_aug, augK_dat, s_asgI, asgK_own,
  List.getElem?_cons_zero, List.getElem?_cons_succ, List.set_cons_zero, List.set_cons_succ, wipeV, bd_add, bd_sub, bd_and, bd_or, bd_xor, ud_neg, cd_lt, cd_le, cd_gt, cd_ge, cd_eq, cd_ne, bf_min2, bf_max2, bf_lenL, bf_lenT, bf_int, bf_intB, bf_abs, bl_list, tr_int, tr_bool, tr_list, sq_list, sq_tup, tgSet, setNs, callF, List.length_cons, List.length_nil, List.nil_append, List.cons_append, if_true, if_false, reduceIte, Bool.false_eq_true, Nat.le_refl, Nat.zero_le, List.length_map, List.length_append, List.map_cons, List.map_nil, List.replicate, Nat.reduceAdd, Nat.reduceSub, at_fn, at_r, List.tail_cons, ix3, ix2, ix4, st3, hd, bd_mul (k := 48271) (by decide), bd_mul (k := 69621) (by decide), bd_mul (k := 16807) (by decide), bd_mod (j := 2147483647) (by decide), bd_mod (j := 2147483629) (by decide), bd_fdiv (j := 5) (by decide), bd_mod hn0, h2]
    · obtain ⟨v, h1, h2⟩ := cast_ni (Int.emod_nonneg q2 (by omega : (n : Int) ≠ 0)) (Int.emod_lt_of_pos _ hn0)
      refine ⟨v, q2 / n, p3 + 1, .any, .dat (ni v), h1, ?_⟩
      have hd : decide (q2 ≤ 0) = false := decide_eq_false hc
      unfold b__law_draw pl
      simp only [bindK_ok, bindK_ex, noxK_ok, seqK_ex, thenK_ex, thenK_ok, thenK_ex, seqK_nx, seqK_rt, seqK_bk, seqK_ct, seqK_ex, varK_dat, varK_own, ofK_some, toDK_lst, lstK_lst, bind_ap, nox_ap, then_ap, ret_ap, of_ap, view_ap, toD_dat, toD_own, toDs_nil, toDs_cons, views_nil, views_cons, tru_ap, lstAt_own, view_dat, view_own, viewK_lst, a_dat, a_var, a_bin, a_un, a_cmp, a_chn, a_and, a_or, andK_ap, orK_ap, chnK_ap, a_not, a_ite, iteK_ap, a_tup, a_lst, a_idx, a_cat, a_rep, a_slc, a_isi, a_blen, blenK_int, a_sortr, sortrK_list, a_call, a_bi, biK_some, a_com, comK_ok, es_nil, es_cons, ts_nil, ts_one, i_seq, i_enu, i_rng, b_nil, b_cons, s_asg, put_ap, s_ret, s_ite, ifK_ap, s_for, s_while, s_gc, s_raise, s_pass, s_app, s_aug, augK_dat, s_asgI, asgK_own,
  List.getElem?_cons_zero, List.getElem?_cons_succ, List.set_cons_zero, List.set_cons_succ, wipeV, bd_add, bd_sub, bd_and, bd_or, bd_xor, ud_neg, cd_lt, cd_le, cd_gt, cd_ge, cd_eq, cd_ne, bf_min2, bf_max2, bf_lenL, bf_lenT, bf_int, bf_intB, bf_abs, bl_list, tr_int, tr_bool, tr_list, sq_list, sq_tup, tgSet, setNs, callF, List.length_cons, List.length_nil, List.nil_append, List.cons_append, if_true, if_false, reduceIte, Bool.false_eq_true, Nat.le_refl, Nat.zero_le, List.length_map, List.length_append, List.map_cons, List.map_nil, List.replicate, Nat.reduceAdd, Nat.reduceSub, at_fn, at_r, List.tail_cons, ix3, ix2, ix4, st3, st2, hd, bd_mod hn0, bd_fdiv hlog, h2]
  have fin : ∀ (x : SV) (q1 : Nat) (q2 : Int), exS (Γd.at 1) (b__law_draw.head (by decide)) ⟨[.own 0, .dat (ni n), .any, .any, .any], [.lst (pl ns p1 p2 p3 p4)]⟩ = some (.nx ⟨[.own 0, .dat (ni n), x, .any, .any], [.lst (pl ns q1 q2 p3 p4)]⟩) → ∃ (v q1 : Nat) (q2 q3 : Int), v < n ∧ Φ_draw [.own 0, .dat (ni n)] [.lst (pl ns p1 p2 p3 p4)] = some (.ret (.dat (ni v)) [.lst (pl ns q1 q2 q3 p4)]) := by
    intro x q1 q2 h
    obtain ⟨v, r2, r3, y, z, h1, h2⟩ := main x q1 q2
    refine ⟨v, q1, r2, r3, h1, run_ret (sv := .dat (ni v)) (A := ⟨[.own 0, .dat (ni n), x, y, z], [.lst (pl ns q1 r2 r3 p4)]⟩) rfl ?_ gc_dat1⟩
    show exB (Γd.at 1) (b__law_draw.head (by decide) :: b__law_draw.tail) _ = _
    rw [b_cons]
    simp only [bindK_ok, bindK_ex, noxK_ok, seqK_ex, thenK_ex, thenK_ok, thenK_ex, seqK_nx, seqK_rt, seqK_bk, seqK_ct, seqK_ex, varK_dat, varK_own, ofK_some, toDK_lst, lstK_lst, bind_ap, nox_ap, then_ap, ret_ap, of_ap, view_ap, toD_dat, toD_own, toDs_nil, toDs_cons, views_nil, views_cons, tru_ap, lstAt_own, view_dat, view_own, viewK_lst, a_dat, a_var, a_bin, a_un, a_cmp, a_chn, a_and, a_or, andK_ap, orK_ap, chnK_ap, a_not, a_ite, iteK_ap, a_tup, a_lst, a_idx, a_cat, a_rep, a_slc, a_isi, a_blen, blenK_int, a_sortr, sortrK_list, a_call, a_bi, biK_some, a_com, comK_ok, es_nil, es_cons, ts_nil, ts_one, i_seq, i_enu, i_rng, b_nil, b_cons, s_asg, put_ap, s_ret, s_ite, ifK_ap, s_for, s_while, s_gc, s_raise, s_pass, s_app, s_aug, augK_dat, s_asgI, asgK_own,
  List.getElem?_cons_zero, List.getElem?_cons_succ, List.set_cons_zero, List.set_cons_succ, wipeV, bd_add, bd_sub, bd_and, bd_or, bd_xor, ud_neg, cd_lt, cd_le, cd_gt, cd_ge, cd_eq, cd_ne, bf_min2, bf_max2, bf_lenL, bf_lenT, bf_int, bf_intB, bf_abs, bl_list, tr_int, tr_bool, tr_list, sq_list, sq_tup, tgSet, setNs, callF, List.length_cons, List.length_nil, List.nil_append, List.cons_append, if_true, if_false, reduceIte, Bool.false_eq_true, Nat.le_refl, Nat.zero_le, List.length_map, List.length_append, List.map_cons, List.map_nil, List.replicate, Nat.reduceAdd, Nat.reduceSub, at_fn, at_r]
    rw [h]
    simp only [bindK_ok, bindK_ex, noxK_ok, seqK_ex, thenK_ex, thenK_ok, thenK_ex, seqK_nx, seqK_rt, seqK_bk, seqK_ct, seqK_ex, varK_dat, varK_own, ofK_some, toDK_lst, lstK_lst, bind_ap, nox_ap, then_ap, ret_ap, of_ap, view_ap, toD_dat, toD_own, toDs_nil, toDs_cons, views_nil, views_cons, tru_ap, lstAt_own, view_dat, view_own, viewK_lst, a_dat, a_var, a_bin, a_un, a_cmp, a_chn, a_and, a_or, andK_ap, orK_ap, chnK_ap, a_not, a_ite, iteK_ap, a_tup, a_lst, a_idx, a_cat, a_rep, a_slc, a_isi, a_blen, blenK_int, a_sortr, sortrK_list, a_call, a_bi, biK_some, a_com, comK_ok, es_nil, es_cons, ts_nil, ts_one, i_seq, i_enu, i_rng, b_nil, b_cons, s_asg, put_ap, s_ret, s_ite, ifK_ap, s_for, s_while, s_gc, s_raise, s_pass, s_app, s_aug, augK_dat, s_asgI, asgK_own,
  List.getElem?_cons_zero, List.getElem?_cons_succ, List.set_cons_zero, List.set_cons_succ, wipeV, bd_add, bd_sub, bd_and, bd_or, bd_xor, ud_neg, cd_lt, cd_le, cd_gt, cd_ge, cd_eq, cd_ne, bf_min2, bf_max2, bf_lenL, bf_lenT, bf_int, bf_intB, bf_abs, bl_list, tr_int, tr_bool, tr_list, sq_list, sq_tup, tgSet, setNs, callF, List.length_cons, List.length_nil, List.nil_append, List.cons_append, if_true, if_false, reduceIte, Bool.false_eq_true, Nat.le_refl, Nat.zero_le, List.length_map, List.length_append, List.map_cons, List.map_nil, List.replicate, Nat.reduceAdd, Nat.reduceSub, at_fn, at_r]
    exact h2
  by_cases hc : p2 ≤ 0 ∧ p1 < ns.length
  · obtain ⟨cell, hcell⟩ : ∃ cell, ns[p1]? = some cell := ⟨_, List.getElem?_eq_getElem hc.2⟩
    have hd1 : decide (p2 ≤ 0) = true := decide_eq_true hc.1
    have hd2 : decide ((p1 : Int) < (ns.length : Int)) = true := decide_eq_true (by exact_mod_cast hc.2)
    have hix : ixD (.list (ns.map PyData.int)) (.int (p1 : Int)) = some (.int cell) := ix_list (by rw [List.getElem?_map, hcell]; rfl)
    by_cases hbig : cell < 1000000000000000000
    · obtain ⟨t, ht⟩ := spread_run cell
      have hd3 : decide (cell < 1000000000000000000) = true := decide_eq_true hbig
      refine fin (.dat (.int cell)) (p1 + 1) t ?_
      show exS (Γd.at 1) (b__law_draw.head _) _ = _
      unfold b__law_draw pl
      simp only [bindK_ok, bindK_ex, noxK_ok, seqK_ex, thenK_ex, thenK_ok, thenK_ex, seqK_nx, seqK_rt, seqK_bk, seqK_ct, seqK_ex, varK_dat, varK_own, ofK_some, toDK_lst, lstK_lst, bind_ap, nox_ap, then_ap, ret_ap, of_ap, view_ap, toD_dat, toD_own, toDs_nil, toDs_cons, views_nil, views_cons, tru_ap, lstAt_own, view_dat, view_own, viewK_lst, a_dat, a_var, a_bin, a_un, a_cmp, a_chn, a_and, a_or, andK_ap, orK_ap, chnK_ap, a_not, a_ite, iteK_ap, a_tup, a_lst, a_idx, a_cat, a_rep, a_slc, a_isi, a_blen, blenK_int, a_sortr, sortrK_list, a_call, a_bi, biK_some, a_com, comK_ok, es_nil, es_cons, ts_nil, ts_one, i_seq, i_enu, i_rng, b_nil, b_cons, s_asg, put_ap, s_ret, s_ite, ifK_ap, s_for, s_while, s_gc, s_raise, s_pass, s_app, s_aug, augK_dat, s_asgI, asgK_own,
  List.getElem?_cons_zero, List.getElem?_cons_succ, List.set_cons_zero, List.set_cons_succ, wipeV, bd_add, bd_sub, bd_and, bd_or, bd_xor, ud_neg, cd_lt, cd_le, cd_gt, cd_ge, cd_eq, cd_ne, bf_min2, bf_max2, bf_lenL, bf_lenT, bf_int, bf_intB, bf_abs, bl_list, tr_int, tr_bool, tr_list, sq_list, sq_tup, tgSet, setNs, callF, List.length_cons, List.length_nil, List.nil_append, List.cons_append, if_true, if_false, reduceIte, Bool.false_eq_true, Nat.le_refl, Nat.zero_le, List.length_map, List.length_append, List.map_cons, List.map_nil, List.replicate, Nat.reduceAdd, Nat.reduceSub, at_fn, at_r, List.head_cons, ix0, ix1, ix2, hd1, hd2, hd3, hix, st1, st2, Γd_s, ht, plain_dat]
      rfl
    · have hd3 : decide (cell < 1000000000000000000) = false := decide_eq_false hbig
      refine fin (.dat (.int cell)) (p1 + 1) cell ?_
      unfold b__law_draw pl
      simp only [bindK_ok, bindK_ex, noxK_ok, seqK_ex, thenK_ex, thenK_ok, thenK_ex, seqK_nx, seqK_rt, seqK_bk, seqK_ct, seqK_ex, varK_dat, varK_own, ofK_some, toDK_lst, lstK_lst, bind_ap, nox_ap, then_ap, ret_ap, of_ap, view_ap, toD_dat, toD_own, toDs_nil, toDs_cons, views_nil, views_cons, tru_ap, lstAt_own, view_dat, view_own, viewK_lst, a_dat, a_var, a_bin, a_un, a_cmp, a_chn, a_and, a_or, andK_ap, orK_ap, chnK_ap, a_not, a_ite, iteK_ap, a_tup, a_lst, a_idx, a_cat, a_rep, a_slc, a_isi, a_blen, blenK_int, a_sortr, sortrK_list, a_call, a_bi, biK_some, a_com, comK_ok, es_nil, es_cons, ts_nil, ts_one, i_seq, i_enu, i_rng, b_nil, b_cons, s_asg, put_ap, s_ret, s_ite, ifK_ap, s_for, s_while, s_gc, s_raise, s_pass, s_app, s_aug, augK_dat, s_asgI, asgK_own,
  List.getElem?_cons_zero, List.getElem?_cons_succ, List.set_cons_zero, List.set_cons_succ, wipeV, bd_add, bd_sub, bd_and, bd_or, bd_xor, ud_neg, cd_lt, cd_le, cd_gt, cd_ge, cd_eq, cd_ne, bf_min2, bf_max2, bf_lenL, bf_lenT, bf_int, bf_intB, bf_abs, bl_list, tr_int, tr_bool, tr_list, sq_list, sq_tup, tgSet, setNs, callF, List.length_cons, List.length_nil, List.nil_append, List.cons_append, if_true, if_false, reduceIte, Bool.false_eq_true, Nat.le_refl, Nat.zero_le, List.length_map, List.length_append, List.map_cons, List.map_nil, List.replicate, Nat.reduceAdd, Nat.reduceSub, at_fn, at_r, List.head_cons, ix0, ix1, ix2, hd1, hd2, hd3, hix, st1, st2]
      rfl
  · refine fin .any p1 p2 ?_
    unfold b__law_draw pl
    by_cases h1 : p2 ≤ 0
    · have hd1 : decide (p2 ≤ 0) = true := decide_eq_true h1
      have hd2 : decide ((p1 : Int) < (ns.length : Int)) = false := decide_eq_false (by have : ¬ p1 < ns.length := fun z => hc ⟨h1, z⟩; omega)
      simp only [bindK_ok, bindK_ex, noxK_ok, seqK_ex, thenK_ex, thenK_ok, thenK_ex, seqK_nx, seqK_rt, seqK_bk, seqK_ct, seqK_ex, varK_dat, varK_own, ofK_some, toDK_lst, lstK_lst, bind_ap, nox_ap, then_ap, ret_ap, of_ap, view_ap, toD_dat, toD_own, toDs_nil, toDs_cons, views_nil, views_cons, tru_ap, lstAt_own, view_dat, view_own, viewK_lst, a_dat, a_var, a_bin, a_un, a_cmp, a_chn, a_and, a_or, andK_ap, orK_ap, chnK_ap, a_not, a_ite, iteK_ap, a_tup, a_lst, a_idx, a_cat, a_rep, a_slc, a_isi, a_blen, blenK_int, a_sortr, sortrK_list, a_call, a_bi, biK_some, a_com, comK_ok, es_nil, es_cons, ts_nil, ts_one, i_seq, i_enu, i_rng, b_nil, b_cons, s_asg, put_ap, s_ret, s_ite, ifK_ap, s_for, s_while, s_gc, s_raise, s_pass, s_app, s_aug, augK_dat, s_asgI, asgK_own,
  List.getElem?_cons_zero, List.getElem?_cons_succ, List.set_cons_zero, List.set_cons_succ, wipeV, bd_add, bd_sub, bd_and, bd_or, bd_xor, ud_neg, cd_lt, cd_le, cd_gt, cd_ge, cd_eq, cd_ne, bf_min2, bf_max2, bf_lenL, bf_lenT, bf_int, bf_intB, bf_abs, bl_list, tr_int, tr_bool, tr_list, sq_list, sq_tup, tgSet, setNs, callF, List.length_cons, List.length_nil, List.nil_append, List.cons_append, if_true, if_false, reduceIte, Bool.false_eq_true, Nat.le_refl, Nat.zero_le, List.length_map, List.length_append, List.map_cons, List.map_nil, List.replicate, Nat.reduceAdd, Nat.reduceSub, at_fn, at_r, List.head_cons, ix0, ix1, ix2, hd1, hd2]
    · have hd1 : decide (p2 ≤ 0) = false := decide_eq_false h1
      simp only [bindK_ok, bindK_ex, noxK_ok, seqK_ex, thenK_ex, thenK_ok, thenK_ex, seqK_nx, seqK_rt, seqK_bk, seqK_ct, seqK_ex, varK_dat, varK_own, ofK_some, toDK_lst, lstK_lst, bind_ap, nox_ap, then_ap, ret_ap, of_ap, view_ap, toD_dat, toD_own, toDs_nil, toDs_cons, views_nil, views_cons, tru_ap, lstAt_own, view_dat, view_own, viewK_lst, a_dat, a_var, a_bin, a_un, a_cmp, a_chn, a_and, a_or, andK_ap, orK_ap, chnK_ap, a_not, a_ite, iteK_ap, a_tup, a_lst, a_idx, a_cat, a_rep, a_slc, a_isi, a_blen, blenK_int, a_sortr, sortrK_list, a_call, a_bi, biK_some, a_com, comK_ok, es_nil, es_cons, ts_nil, ts_one, i_seq, i_enu, i_rng, b_nil, b_cons, s_asg, put_ap, s_ret, s_ite, ifK_ap, s_for, s_while, s_gc, s_raise, s_pass, s_app, s_aug, augK_dat, s_asgI, asgK_own,
  List.getElem?_cons_zero, List.getElem?_cons_succ, List.set_cons_zero, List.set_cons_succ, wipeV, bd_add, bd_sub, bd_and, bd_or, bd_xor, ud_neg, cd_lt, cd_le, cd_gt, cd_ge, cd_eq, cd_ne, bf_min2, bf_max2, bf_lenL, bf_lenT, bf_int, bf_intB, bf_abs, bl_list, tr_int, tr_bool, tr_list, sq_list, sq_tup, tgSet, setNs, callF, List.length_cons, List.length_nil, List.nil_append, List.cons_append, if_true, if_false, reduceIte, Bool.false_eq_true, Nat.le_refl, Nat.zero_le, List.length_map, List.length_append, List.map_cons, List.map_nil, List.replicate, Nat.reduceAdd, Nat.reduceSub, at_fn, at_r, List.head_cons, ix0, ix1, ix2, hd1]
/-! ### is it an integer -/
def Φ_isint : List SV → List ON → Option RO := runF (Gm0 subT) b__law_is_integer 1 1
theorem kb1 : kitB "int" "int" = some true := by decide
theorem kb2 : kitB "int" "bool" = some false := by decide
theorem ty_int {i : Int} : tyD (.int i) = some "int" := rfl
theorem isint_run (i : Int) : Φ_isint [.dat (.int i)] [] = some (.ret (.dat (.bool true)) []) := by
  refine run_ret (sv := .dat (.bool true)) (A := ⟨[.dat (.int i)], []⟩) rfl ?_ gc_dat
  unfold b__law_is_integer
  simp only [bindK_ok, bindK_ex, noxK_ok, seqK_ex, thenK_ex, thenK_ok, thenK_ex, seqK_nx, seqK_rt, seqK_bk, seqK_ct, seqK_ex, varK_dat, varK_own, ofK_some, toDK_lst, lstK_lst, bind_ap, nox_ap, then_ap, ret_ap, of_ap, view_ap, toD_dat, toD_own, toDs_nil, toDs_cons, views_nil, views_cons, tru_ap, lstAt_own, view_dat, view_own, viewK_lst, a_dat, a_var, a_bin, a_un, a_cmp, a_chn, a_and, a_or, andK_ap, orK_ap, chnK_ap, a_not, a_ite, iteK_ap, a_tup, a_lst, a_idx, a_cat, a_rep, a_slc, a_isi, a_blen, blenK_int, a_sortr, sortrK_list, a_call, a_bi, biK_some, a_com, comK_ok, es_nil, es_cons, ts_nil, ts_one, i_seq, i_enu, i_rng, b_nil, b_cons, s_asg, put_ap, s_ret, s_ite, ifK_ap, s_for, s_while, s_gc, s_raise, s_pass, s_app, s_aug, augK_dat, s_asgI, asgK_own,
  List.getElem?_cons_zero, List.getElem?_cons_succ, List.set_cons_zero, List.set_cons_succ, wipeV, bd_add, bd_sub, bd_and, bd_or, bd_xor, ud_neg, cd_lt, cd_le, cd_gt, cd_ge, cd_eq, cd_ne, bf_min2, bf_max2, bf_lenL, bf_lenT, bf_int, bf_intB, bf_abs, bl_list, tr_int, tr_bool, tr_list, sq_list, sq_tup, tgSet, setNs, callF, List.length_cons, List.length_nil, List.nil_append, List.cons_append, if_true, if_false, reduceIte, Bool.false_eq_true, Nat.le_refl, Nat.zero_le, List.length_map, List.length_append, List.map_cons, List.map_nil, List.replicate, Nat.reduceAdd, Nat.reduceSub, at_fn, at_r, a_isi, ty_int, kb1, kb2, Bool.not_false]
/-! ### what is left of a mask -/
theorem and1_c (a : Nat) : Builtin.bitAnd (a : Int) 1 = ((a &&& 1 : Nat) : Int) := Eng.bitAnd_cast a 1
theorem bit_eq (a t : Nat) : decide ((((a / 2 ^ t) &&& 1 : Nat) : Int) = 1) = a.testBit t := by
  rw [Nat.testBit_eq_decide_div_mod_eq, Nat.and_one_is_mod]
  exact decide_eq_decide.mpr (by omega)
theorem left_loop {Γ : Gm} {x : PyData} : ∀ (B : List Nat) (m : Nat), (∀ b ∈ B, b ≠ 0) → forGo (.nm 2) [2] (exB Γ b__law_left_1) (B.map ni) ⟨[.dat x, .dat (ni m), .any], []⟩ = some (.nx ⟨[.dat x, .dat (ni (red B m)), .any], []⟩)
  | [], m, _ => rfl
  | b :: B, m, h => by
    have hb := h b List.mem_cons_self
    have ih := left_loop (Γ := Γ) (x := x) B (rstep m b) fun c hc => h c (List.mem_cons_of_mem _ hc)
    rw [Eng.rstep_eq hb] at ih
    rw [List.map_cons, forGo, b__law_left_1] at *
    cases hbit : m.testBit (lead b) with
    | true =>
      rw [hbit] at ih
      simp only [bindK_ok, bindK_ex, noxK_ok, seqK_ex, thenK_ex, thenK_ok, thenK_ex, seqK_nx, seqK_rt, seqK_bk, seqK_ct, seqK_ex, varK_dat, varK_own, ofK_some, toDK_lst, lstK_lst, bind_ap, nox_ap, then_ap, ret_ap, of_ap, view_ap, toD_dat, toD_own, toDs_nil, toDs_cons, views_nil, views_cons, tru_ap, lstAt_own, view_dat, view_own, viewK_lst, a_dat, a_var, a_bin, a_un, a_cmp, a_chn, a_and, a_or, andK_ap, orK_ap, chnK_ap, a_not, a_ite, iteK_ap, a_tup, a_lst, a_idx, a_cat, a_rep, a_slc, a_isi, a_blen, blenK_int, a_sortr, sortrK_list, a_call, a_bi, biK_some, a_com, comK_ok, es_nil, es_cons, ts_nil, ts_one, i_seq, i_enu, i_rng, b_nil, b_cons, s_asg, put_ap, s_ret, s_ite, ifK_ap, s_for, s_while, s_gc, s_raise, s_pass, s_app, s_aug, augK_dat, s_asgI, asgK_own,
  List.getElem?_cons_zero, List.getElem?_cons_succ, List.set_cons_zero, List.set_cons_succ, wipeV, bd_add, bd_sub, bd_and, bd_or, bd_xor, ud_neg, cd_lt, cd_le, cd_gt, cd_ge, cd_eq, cd_ne, bf_min2, bf_max2, bf_lenL, bf_lenT, bf_int, bf_intB, bf_abs, bl_list, tr_int, tr_bool, tr_list, sq_list, sq_tup, tgSet, setNs, callF, List.length_cons, List.length_nil, List.nil_append, List.cons_append, if_true, if_false, reduceIte, Bool.false_eq_true, Nat.le_refl, Nat.zero_le, List.length_map, List.length_append, List.map_cons, List.map_nil, List.replicate, Nat.reduceAdd, Nat.reduceSub, at_fn, at_r, ld_cast hb, shr_c, and1_c, bit_eq, hbit, xor_c]
      have e : red (b :: B) m = red B (if true = true then m ^^^ b else m) := by rw [Eng.red_cons, Eng.rstep_eq hb, hbit]
      rw [e]; exact ih
    | false =>
      rw [hbit] at ih
      simp only [bindK_ok, bindK_ex, noxK_ok, seqK_ex, thenK_ex, thenK_ok, thenK_ex, seqK_nx, seqK_rt, seqK_bk, seqK_ct, seqK_ex, varK_dat, varK_own, ofK_some, toDK_lst, lstK_lst, bind_ap, nox_ap, then_ap, ret_ap, of_ap, view_ap, toD_dat, toD_own, toDs_nil, toDs_cons, views_nil, views_cons, tru_ap, lstAt_own, view_dat, view_own, viewK_lst, a_dat, a_var, a_bin, a_un, a_cmp, a_chn, a_and, a_or, andK_ap, orK_ap, chnK_ap, a_not, a_ite, iteK_ap, a_tup, a_lst, a_idx, a_cat, a_rep, a_slc, a_isi, a_blen, blenK_int, a_sortr, sortrK_list, a_call, a_bi, biK_some, a_com, comK_ok, es_nil, es_cons, ts_nil, ts_one, i_seq, i_enu, i_rng, b_nil, b_cons, s_asg, put_ap, s_ret, s_ite, ifK_ap, s_for, s_while, s_gc, s_raise, s_pass, s_app, s_aug, augK_dat, s_asgI, asgK_own,
  List.getElem?_cons_zero, List.getElem?_cons_succ, List.set_cons_zero, List.set_cons_succ, wipeV, bd_add, bd_sub, bd_and, bd_or, bd_xor, ud_neg, cd_lt, cd_le, cd_gt, cd_ge, cd_eq, cd_ne, bf_min2, bf_max2, bf_lenL, bf_lenT, bf_int, bf_intB, bf_abs, bl_list, tr_int, tr_bool, tr_list, sq_list, sq_tup, tgSet, setNs, callF, List.length_cons, List.length_nil, List.nil_append, List.cons_append, if_true, if_false, reduceIte, Bool.false_eq_true, Nat.le_refl, Nat.zero_le, List.length_map, List.length_append, List.map_cons, List.map_nil, List.replicate, Nat.reduceAdd, Nat.reduceSub, at_fn, at_r, ld_cast hb, shr_c, and1_c, bit_eq, hbit]
      have e : red (b :: B) m = red B (if false = true then m ^^^ b else m) := by rw [Eng.red_cons, Eng.rstep_eq hb, hbit]
      rw [e]; exact ih
def Φ_left : List SV → List ON → Option RO := runF (Gm0 subT) b__law_left 2 3
theorem left_run (B : List Nat) (m : Nat) (h : ∀ b ∈ B, b ≠ 0) : Φ_left [.dat (nl B), .dat (ni m)] [] = some (.ret (.dat (ni (red B m))) []) := by
  have key := left_loop (Γ := (Gm0 subT).at 0) (x := nl B) B m h
  refine run_ret (sv := .dat (ni (red B m))) (A := ⟨[.dat (nl B), .dat (ni (red B m)), .any], []⟩) rfl ?_ gc_dat
  unfold b__law_left
  simp only [bindK_ok, bindK_ex, noxK_ok, seqK_ex, thenK_ex, thenK_ok, thenK_ex, seqK_nx, seqK_rt, seqK_bk, seqK_ct, seqK_ex, varK_dat, varK_own, ofK_some, toDK_lst, lstK_lst, bind_ap, nox_ap, then_ap, ret_ap, of_ap, view_ap, toD_dat, toD_own, toDs_nil, toDs_cons, views_nil, views_cons, tru_ap, lstAt_own, view_dat, view_own, viewK_lst, a_dat, a_var, a_bin, a_un, a_cmp, a_chn, a_and, a_or, andK_ap, orK_ap, chnK_ap, a_not, a_ite, iteK_ap, a_tup, a_lst, a_idx, a_cat, a_rep, a_slc, a_isi, a_blen, blenK_int, a_sortr, sortrK_list, a_call, a_bi, biK_some, a_com, comK_ok, es_nil, es_cons, ts_nil, ts_one, i_seq, i_enu, i_rng, b_nil, b_cons, s_asg, put_ap, s_ret, s_ite, ifK_ap, s_for, s_while, s_gc, s_raise, s_pass, s_app, s_aug, augK_dat, s_asgI, asgK_own,
  List.getElem?_cons_zero, List.getElem?_cons_succ, List.set_cons_zero, List.set_cons_succ, wipeV, bd_add, bd_sub, bd_and, bd_or, bd_xor, ud_neg, cd_lt, cd_le, cd_gt, cd_ge, cd_eq, cd_ne, bf_min2, bf_max2, bf_lenL, bf_lenT, bf_int, bf_intB, bf_abs, bl_list, tr_int, tr_bool, tr_list, sq_list, sq_tup, tgSet, setNs, callF, List.length_cons, List.length_nil, List.nil_append, List.cons_append, if_true, if_false, reduceIte, Bool.false_eq_true, Nat.le_refl, Nat.zero_le, List.length_map, List.length_append, List.map_cons, List.map_nil, List.replicate, Nat.reduceAdd, Nat.reduceSub, at_fn, at_r, key]
/-! ### the law's own basis -/
theorem min_elim {r b : Nat} (hr : r ≠ 0) : min b (b ^^^ r) = elim r b := by
  show rstep b r = elim r b
  rw [Eng.rstep_eq hr]; rfl
theorem gcB0 {a b c d : PyData} {n : List ON} : gcA 0 ⟨[.dat a, .dat b, .dat c, .dat d], n⟩ = ⟨[.dat a, .dat b, .dat c, .dat d], []⟩ := rfl
theorem gcB1 {a b c : PyData} {n : List ON} : gcA 0 ⟨[.dat a, .dat b, .dat c, .any], n⟩ = ⟨[.dat a, .dat b, .dat c, .any], []⟩ := rfl
theorem gcB2 {a c : PyData} {x y : ON} {l : List PyData} : gcA 0 ⟨[.dat a, .own 2, .dat c, .any], [x, y, .lst l]⟩ = ⟨[.dat a, .own 0, .dat c, .any], [.lst l]⟩ := rfl
theorem gcB3 {a c : PyData} {x y z : ON} {l : List PyData} : gcA 0 ⟨[.dat a, .own 3, .dat c, .any], [x, y, z, .lst l]⟩ = ⟨[.dat a, .own 0, .dat c, .any], [.lst l]⟩ := rfl
theorem frzB {a c e : PyData} {l : List PyData} : frzA 0 e ⟨[.dat a, .own 0, .dat c, .any], [.lst l]⟩ = ⟨[.dat a, .dat e, .dat c, .any], [.gone]⟩ := rfl
theorem inner {Γ : Gm} (hr : Γ.r = 0) {a b : PyData} : ∀ (B : List Nat) (m : Nat) (μ : List ON), ∃ μ', (μ' = μ ∨ μ' = []) ∧ forGo (.nm 3) [3] (exB Γ b__law_basis_1) (B.map ni) ⟨[.dat a, .dat b, .dat (ni m), .any], μ⟩ = some (.nx ⟨[.dat a, .dat b, .dat (ni (red B m)), .any], μ'⟩)
  | [], m, μ => ⟨μ, .inl rfl, rfl⟩
  | r :: B, m, μ => by
    obtain ⟨μ', h1, h2⟩ := inner hr (a := a) (b := b) B (min m (m ^^^ r)) []
    refine ⟨μ', .inr (h1.elim id id), ?_⟩
    rw [List.map_cons, forGo, b__law_basis_1] at *
    simp only [bindK_ok, bindK_ex, noxK_ok, seqK_ex, thenK_ex, thenK_ok, thenK_ex, seqK_nx, seqK_rt, seqK_bk, seqK_ct, seqK_ex, varK_dat, varK_own, ofK_some, toDK_lst, lstK_lst, bind_ap, nox_ap, then_ap, ret_ap, of_ap, view_ap, toD_dat, toD_own, toDs_nil, toDs_cons, views_nil, views_cons, tru_ap, lstAt_own, view_dat, view_own, viewK_lst, a_dat, a_var, a_bin, a_un, a_cmp, a_chn, a_and, a_or, andK_ap, orK_ap, chnK_ap, a_not, a_ite, iteK_ap, a_tup, a_lst, a_idx, a_cat, a_rep, a_slc, a_isi, a_blen, blenK_int, a_sortr, sortrK_list, a_call, a_bi, biK_some, a_com, comK_ok, es_nil, es_cons, ts_nil, ts_one, i_seq, i_enu, i_rng, b_nil, b_cons, s_asg, put_ap, s_ret, s_ite, ifK_ap, s_for, s_while, s_gc, s_raise, s_pass, s_app, s_aug, augK_dat, s_asgI, asgK_own,
  List.getElem?_cons_zero, List.getElem?_cons_succ, List.set_cons_zero, List.set_cons_succ, wipeV, bd_add, bd_sub, bd_and, bd_or, bd_xor, ud_neg, cd_lt, cd_le, cd_gt, cd_ge, cd_eq, cd_ne, bf_min2, bf_max2, bf_lenL, bf_lenT, bf_int, bf_intB, bf_abs, bl_list, tr_int, tr_bool, tr_list, sq_list, sq_tup, tgSet, setNs, callF, List.length_cons, List.length_nil, List.nil_append, List.cons_append, if_true, if_false, reduceIte, Bool.false_eq_true, Nat.le_refl, Nat.zero_le, List.length_map, List.length_append, List.map_cons, List.map_nil, List.replicate, Nat.reduceAdd, Nat.reduceSub, at_fn, at_r, xor_c, min_c, hr, gcB0]
    exact h2
theorem cat_own {fr : Bool} {k j : Nat} {ds es : List PyData} {A : AS} (h1 : A.μ[k]? = some (.lst ds)) (h2 : A.μ[j]? = some (.lst es)) : catF fr (.own k) (.own j) A = alloc fr (ds ++ es) A := by
  unfold catF
  dsimp only
  rw [h1, h2]
/-- the list, as one's own or as data -/
def BSt (B : List Nat) (s : SV) (μ : List ON) : Prop := (s = .own 0 ∧ μ = [.lst (B.map ni)]) ∨ (s = .dat (nl B) ∧ μ = [])
theorem basis_step {Γ : Gm} (hr : Γ.r = 0) {a : PyData} {B : List Nat} {r : Nat} {s : SV} {μ : List ON} (hs : BSt B s μ) (hl : B.length ≤ 10000) (hb : r < 2 ^ 20000) : ∃ (C : List Nat) (s' : SV) (μ' : List ON) (x : SV), C.Perm (ext B r) ∧ BSt C s' μ' ∧ exB Γ b__law_basis_3 ⟨[.dat a, s, .dat (ni r), .any], μ⟩ = some (.nx ⟨[.dat a, s', x, .any], μ'⟩) := by
  -- the inner loop
  obtain ⟨μ1, hμ1, hin⟩ : ∃ μ1, (μ1 = [.gone] ∨ μ1 = []) ∧ exS Γ (.for_ (.nm 3) (.seq (.var 1)) b__law_basis_1 [3]) ⟨[.dat a, s, .dat (ni r), .any], μ⟩ = some (.nx ⟨[.dat a, .dat (nl B), .dat (ni (red B r)), .any], μ1⟩) := by
    rcases hs with ⟨rfl, rfl⟩ | ⟨rfl, rfl⟩
    · obtain ⟨μ1, h1, h2⟩ := inner hr (a := a) (b := nl B) B r [.gone]
      refine ⟨μ1, h1, ?_⟩
      simp only [bindK_ok, bindK_ex, noxK_ok, seqK_ex, thenK_ex, thenK_ok, thenK_ex, seqK_nx, seqK_rt, seqK_bk, seqK_ct, seqK_ex, varK_dat, varK_own, ofK_some, toDK_lst, lstK_lst, bind_ap, nox_ap, then_ap, ret_ap, of_ap, view_ap, toD_dat, toD_own, toDs_nil, toDs_cons, views_nil, views_cons, tru_ap, lstAt_own, view_dat, view_own, viewK_lst, a_dat, a_var, a_bin, a_un, a_cmp, a_chn, a_and, a_or, andK_ap, orK_ap, chnK_ap, a_not, a_ite, iteK_ap, a_tup, a_lst, a_idx, a_cat, a_rep, a_slc, a_isi, a_blen, blenK_int, a_sortr, sortrK_list, a_call, a_bi, biK_some, a_com, comK_ok, es_nil, es_cons, ts_nil, ts_one, i_seq, i_enu, i_rng, b_nil, b_cons, s_asg, put_ap, s_ret, s_ite, ifK_ap, s_for, s_while, s_gc, s_raise, s_pass, s_app, s_aug, augK_dat, s_asgI, asgK_own,
  List.getElem?_cons_zero, List.getElem?_cons_succ, List.set_cons_zero, List.set_cons_succ, wipeV, bd_add, bd_sub, bd_and, bd_or, bd_xor, ud_neg, cd_lt, cd_le, cd_gt, cd_ge, cd_eq, cd_ne, bf_min2, bf_max2, bf_lenL, bf_lenT, bf_int, bf_intB, bf_abs, bl_list, tr_int, tr_bool, tr_list, sq_list, sq_tup, tgSet, setNs, callF, List.length_cons, List.length_nil, List.nil_append, List.cons_append, if_true, if_false, reduceIte, Bool.false_eq_true, Nat.le_refl, Nat.zero_le, List.length_map, List.length_append, List.map_cons, List.map_nil, List.replicate, Nat.reduceAdd, Nat.reduceSub, at_fn, at_r, hr, frzB, h2]
    · obtain ⟨μ1, h1, h2⟩ := inner hr (a := a) (b := nl B) B r []
      refine ⟨μ1, .inr (h1.elim id id), ?_⟩
      simp only [bindK_ok, bindK_ex, noxK_ok, seqK_ex, thenK_ex, thenK_ok, thenK_ex, seqK_nx, seqK_rt, seqK_bk, seqK_ct, seqK_ex, varK_dat, varK_own, ofK_some, toDK_lst, lstK_lst, bind_ap, nox_ap, then_ap, ret_ap, of_ap, view_ap, toD_dat, toD_own, toDs_nil, toDs_cons, views_nil, views_cons, tru_ap, lstAt_own, view_dat, view_own, viewK_lst, a_dat, a_var, a_bin, a_un, a_cmp, a_chn, a_and, a_or, andK_ap, orK_ap, chnK_ap, a_not, a_ite, iteK_ap, a_tup, a_lst, a_idx, a_cat, a_rep, a_slc, a_isi, a_blen, blenK_int, a_sortr, sortrK_list, a_call, a_bi, biK_some, a_com, comK_ok, es_nil, es_cons, ts_nil, ts_one, i_seq, i_enu, i_rng, b_nil, b_cons, s_asg, put_ap, s_ret, s_ite, ifK_ap, s_for, s_while, s_gc, s_raise, s_pass, s_app, s_aug, augK_dat, s_asgI, asgK_own,
  List.getElem?_cons_zero, List.getElem?_cons_succ, List.set_cons_zero, List.set_cons_succ, wipeV, bd_add, bd_sub, bd_and, bd_or, bd_xor, ud_neg, cd_lt, cd_le, cd_gt, cd_ge, cd_eq, cd_ne, bf_min2, bf_max2, bf_lenL, bf_lenT, bf_int, bf_intB, bf_abs, bl_list, tr_int, tr_bool, tr_list, sq_list, sq_tup, tgSet, setNs, callF, List.length_cons, List.length_nil, List.nil_append, List.cons_append, if_true, if_false, reduceIte, Bool.false_eq_true, Nat.le_refl, Nat.zero_le, List.length_map, List.length_append, List.map_cons, List.map_nil, List.replicate, Nat.reduceAdd, Nat.reduceSub, at_fn, at_r, hr, h2]
  by_cases h0 : red B r = 0
  · have e1 : ext B r = B := if_pos h0
    have hd : decide ((0 : Int) < ((red B r : Nat) : Int)) = false := by rw [h0]; rfl
    refine ⟨B, .dat (nl B), [], .dat (ni (red B r)), by rw [e1], .inr ⟨rfl, rfl⟩, ?_⟩
    unfold b__law_basis_3
    rw [b_cons, hin]
    simp only [bindK_ok, bindK_ex, noxK_ok, seqK_ex, thenK_ex, thenK_ok, thenK_ex, seqK_nx, seqK_rt, seqK_bk, seqK_ct, seqK_ex, varK_dat, varK_own, ofK_some, toDK_lst, lstK_lst, bind_ap, nox_ap, then_ap, ret_ap, of_ap, view_ap, toD_dat, toD_own, toDs_nil, toDs_cons, views_nil, views_cons, tru_ap, lstAt_own, view_dat, view_own, viewK_lst, a_dat, a_var, a_bin, a_un, a_cmp, a_chn, a_and, a_or, andK_ap, orK_ap, chnK_ap, a_not, a_ite, iteK_ap, a_tup, a_lst, a_idx, a_cat, a_rep, a_slc, a_isi, a_blen, blenK_int, a_sortr, sortrK_list, a_call, a_bi, biK_some, a_com, comK_ok, es_nil, es_cons, ts_nil, ts_one, i_seq, i_enu, i_rng, b_nil, b_cons, s_asg, put_ap, s_ret, s_ite, ifK_ap, s_for, s_while, s_gc, s_raise, s_pass, s_app, s_aug, augK_dat, s_asgI, asgK_own,
  List.getElem?_cons_zero, List.getElem?_cons_succ, List.set_cons_zero, List.set_cons_succ, wipeV, bd_add, bd_sub, bd_and, bd_or, bd_xor, ud_neg, cd_lt, cd_le, cd_gt, cd_ge, cd_eq, cd_ne, bf_min2, bf_max2, bf_lenL, bf_lenT, bf_int, bf_intB, bf_abs, bl_list, tr_int, tr_bool, tr_list, sq_list, sq_tup, tgSet, setNs, callF, List.length_cons, List.length_nil, List.nil_append, List.cons_append, if_true, if_false, reduceIte, Bool.false_eq_true, Nat.le_refl, Nat.zero_le, List.length_map, List.length_append, List.map_cons, List.map_nil, List.replicate, Nat.reduceAdd, Nat.reduceSub, at_fn, at_r, hd, hr, gcB1]
  · have e1 : ext B r = B.map (elim (red B r)) ++ [red B r] := if_neg h0
    have hd : decide ((0 : Int) < ((red B r : Nat) : Int)) = true := decide_eq_true (by omega)
    obtain ⟨C, c1, c2, c3⟩ := sort_nat (B.map (elim (red B r)) ++ [red B r])
    have hn : (1000000 < B.length) = False := by simp; omega
    have ha := fun A : AS => alloc_own (A := A) (ds := (B.map (elim (red B r))).map ni) (by simp; omega)
    have ha2 := fun A : AS => alloc_own (A := A) (ds := [ni (red B r)]) (by simp)
    have ha3 := fun A : AS => alloc_dat (A := A) (ds := (B.map (elim (red B r)) ++ [red B r]).map ni) (by simp; omega)
    have ha4 := fun A : AS => alloc_own (A := A) (ds := C.map ni) (by rw [List.length_map, c1.length_eq]; simp; omega)
    have key : ∀ μ : List ON, comGo (.nm 3) [3] (evTs Γ .nil) (ev Γ t__law_basis_2) 0 (B.map ni) [] ⟨[.dat a, .dat (nl B), .dat (ni (red B r)), .any], μ⟩ = some (.ok ((B.map (elim (red B r))).map ni) ⟨[.dat a, .dat (nl B), .dat (ni (red B r)), .any], μ⟩) := fun μ => by
      refine com_list [] (by simp) fun i d o h1 h2 => ?_
      rw [List.getElem?_map] at h1 h2
      rw [List.getElem?_map] at h2
      cases hb : B[i]? with
      | none => rw [hb] at h1; cases h1
      | some b =>
        rw [hb] at h1 h2
        cases h1; cases h2
        refine ⟨_, rfl, ?_, rfl⟩
        unfold t__law_basis_2
        cases hbit : b.testBit (lead (red B r)) with
        | true => simp only [bindK_ok, bindK_ex, noxK_ok, seqK_ex, thenK_ex, thenK_ok, thenK_ex, seqK_nx, seqK_rt, seqK_bk, seqK_ct, seqK_ex, varK_dat, varK_own, ofK_some, toDK_lst, lstK_lst, bind_ap, nox_ap, then_ap, ret_ap, of_ap, view_ap, toD_dat, toD_own, toDs_nil, toDs_cons, views_nil, views_cons, tru_ap, lstAt_own, view_dat, view_own, viewK_lst, a_dat, a_var, a_bin, a_un, a_cmp, a_chn, a_and, a_or, andK_ap, orK_ap, chnK_ap, a_not, a_ite, iteK_ap, a_tup, a_lst, a_idx, a_cat, a_rep, a_slc, a_isi, a_blen, blenK_int, a_sortr, sortrK_list, a_call, a_bi, biK_some, a_com, comK_ok, es_nil, es_cons, ts_nil, ts_one, i_seq, i_enu, i_rng, b_nil, b_cons, s_asg, put_ap, s_ret, s_ite, ifK_ap, s_for, s_while, s_gc, s_raise, s_pass, s_app, s_aug, augK_dat, s_asgI, asgK_own,
  List.getElem?_cons_zero, List.getElem?_cons_succ, List.set_cons_zero, List.set_cons_succ, wipeV, bd_add, bd_sub, bd_and, bd_or, bd_xor, ud_neg, cd_lt, cd_le, cd_gt, cd_ge, cd_eq, cd_ne, bf_min2, bf_max2, bf_lenL, bf_lenT, bf_int, bf_intB, bf_abs, bl_list, tr_int, tr_bool, tr_list, sq_list, sq_tup, tgSet, setNs, callF, List.length_cons, List.length_nil, List.nil_append, List.cons_append, if_true, if_false, reduceIte, Bool.false_eq_true, Nat.le_refl, Nat.zero_le, List.length_map, List.length_append, List.map_cons, List.map_nil, List.replicate, Nat.reduceAdd, Nat.reduceSub, at_fn, at_r, ld_cast h0, shr_c, and1_c, bit_eq, hbit, xor_c, min_c, min_elim h0]
        | false => simp only [bindK_ok, bindK_ex, noxK_ok, seqK_ex, thenK_ex, thenK_ok, thenK_ex, seqK_nx, seqK_rt, seqK_bk, seqK_ct, seqK_ex, varK_dat, varK_own, ofK_some, toDK_lst, lstK_lst, bind_ap, nox_ap, then_ap, ret_ap, of_ap, view_ap, toD_dat, toD_own, toDs_nil, toDs_cons, views_nil, views_cons, tru_ap, lstAt_own, view_dat, view_own, viewK_lst, a_dat, a_var, a_bin, a_un, a_cmp, a_chn, a_and, a_or, andK_ap, orK_ap, chnK_ap, a_not, a_ite, iteK_ap, a_tup, a_lst, a_idx, a_cat, a_rep, a_slc, a_isi, a_blen, blenK_int, a_sortr, sortrK_list, a_call, a_bi, biK_some, a_com, comK_ok, es_nil, es_cons, ts_nil, ts_one, i_seq, i_enu, i_rng, b_nil, b_cons, s_asg, put_ap, s_ret, s_ite, ifK_ap, s_for, s_while, s_gc, s_raise, s_pass, s_app, s_aug, augK_dat, s_asgI, asgK_own,
  List.getElem?_cons_zero, List.getElem?_cons_succ, List.set_cons_zero, List.set_cons_succ, wipeV, bd_add, bd_sub, bd_and, bd_or, bd_xor, ud_neg, cd_lt, cd_le, cd_gt, cd_ge, cd_eq, cd_ne, bf_min2, bf_max2, bf_lenL, bf_lenT, bf_int, bf_intB, bf_abs, bl_list, tr_int, tr_bool, tr_list, sq_list, sq_tup, tgSet, setNs, callF, List.length_cons, List.length_nil, List.nil_append, List.cons_append, if_true, if_false, reduceIte, Bool.false_eq_true, Nat.le_refl, Nat.zero_le, List.length_map, List.length_append, List.map_cons, List.map_nil, List.replicate, Nat.reduceAdd, Nat.reduceSub, at_fn, at_r, ld_cast h0, shr_c, and1_c, bit_eq, hbit, elim]
    refine ⟨C, .own 0, [.lst (C.map ni)], .dat (ni (red B r)), by rw [e1]; exact c1, .inl ⟨rfl, rfl⟩, ?_⟩
    unfold b__law_basis_3
    rw [b_cons, hin]
    have em : (B.map (elim (red B r))).map ni ++ [ni (red B r)] = (B.map (elim (red B r)) ++ [red B r]).map ni := by rw [List.map_append]; rfl
    rcases hμ1 with rfl | rfl
    · simp only [bindK_ok, bindK_ex, noxK_ok, seqK_ex, thenK_ex, thenK_ok, thenK_ex, seqK_nx, seqK_rt, seqK_bk, seqK_ct, seqK_ex, varK_dat, varK_own, ofK_some, toDK_lst, lstK_lst, bind_ap, nox_ap, then_ap, ret_ap, of_ap, view_ap, toD_dat, toD_own, toDs_nil, toDs_cons, views_nil, views_cons, tru_ap, lstAt_own, view_dat, view_own, viewK_lst, a_dat, a_var, a_bin, a_un, a_cmp, a_chn, a_and, a_or, andK_ap, orK_ap, chnK_ap, a_not, a_ite, iteK_ap, a_tup, a_lst, a_idx, a_cat, a_rep, a_slc, a_isi, a_blen, blenK_int, a_sortr, sortrK_list, a_call, a_bi, biK_some, a_com, comK_ok, es_nil, es_cons, ts_nil, ts_one, i_seq, i_enu, i_rng, b_nil, b_cons, s_asg, put_ap, s_ret, s_ite, ifK_ap, s_for, s_while, s_gc, s_raise, s_pass, s_app, s_aug, augK_dat, s_asgI, asgK_own,
  List.getElem?_cons_zero, List.getElem?_cons_succ, List.set_cons_zero, List.set_cons_succ, wipeV, bd_add, bd_sub, bd_and, bd_or, bd_xor, ud_neg, cd_lt, cd_le, cd_gt, cd_ge, cd_eq, cd_ne, bf_min2, bf_max2, bf_lenL, bf_lenT, bf_int, bf_intB, bf_abs, bl_list, tr_int, tr_bool, tr_list, sq_list, sq_tup, tgSet, setNs, callF, List.length_cons, List.length_nil, List.nil_append, List.cons_append, if_true, if_false, reduceIte, Bool.false_eq_true, Nat.le_refl, Nat.zero_le, List.length_map, List.length_append, List.map_cons, List.map_nil, List.replicate, Nat.reduceAdd, Nat.reduceSub, at_fn, at_r, hd, hr, hn, key, ha, ha2]
      rw [cat_own rfl rfl, em, ha3]
      simp only [bindK_ok, bindK_ex, noxK_ok, seqK_ex, thenK_ex, thenK_ok, thenK_ex, seqK_nx, seqK_rt, seqK_bk, seqK_ct, seqK_ex, varK_dat, varK_own, ofK_some, toDK_lst, lstK_lst, bind_ap, nox_ap, then_ap, ret_ap, of_ap, view_ap, toD_dat, toD_own, toDs_nil, toDs_cons, views_nil, views_cons, tru_ap, lstAt_own, view_dat, view_own, viewK_lst, a_dat, a_var, a_bin, a_un, a_cmp, a_chn, a_and, a_or, andK_ap, orK_ap, chnK_ap, a_not, a_ite, iteK_ap, a_tup, a_lst, a_idx, a_cat, a_rep, a_slc, a_isi, a_blen, blenK_int, a_sortr, sortrK_list, a_call, a_bi, biK_some, a_com, comK_ok, es_nil, es_cons, ts_nil, ts_one, i_seq, i_enu, i_rng, b_nil, b_cons, s_asg, put_ap, s_ret, s_ite, ifK_ap, s_for, s_while, s_gc, s_raise, s_pass, s_app, s_aug, augK_dat, s_asgI, asgK_own,
  List.getElem?_cons_zero, List.getElem?_cons_succ, List.set_cons_zero, List.set_cons_succ, wipeV, bd_add, bd_sub, bd_and, bd_or, bd_xor, ud_neg, cd_lt, cd_le, cd_gt, cd_ge, cd_eq, cd_ne, bf_min2, bf_max2, bf_lenL, bf_lenT, bf_int, bf_intB, bf_abs, bl_list, tr_int, tr_bool, tr_list, sq_list, sq_tup, tgSet, setNs, callF, List.length_cons, List.length_nil, List.nil_append, List.cons_append, if_true, if_false, reduceIte, Bool.false_eq_true, Nat.le_refl, Nat.zero_le, List.length_map, List.length_append, List.map_cons, List.map_nil, List.replicate, Nat.reduceAdd, Nat.reduceSub, at_fn, at_r, ints_nl, c3, ha4, hr, gcB3]
    · simp only [bindK_ok, bindK_ex, noxK_ok, seqK_ex, thenK_ex, thenK_ok, thenK_ex, seqK_nx, seqK_rt, seqK_bk, seqK_ct, seqK_ex, varK_dat, varK_own, ofK_some, toDK_lst, lstK_lst, bind_ap, nox_ap, then_ap, ret_ap, of_ap, view_ap, toD_dat, toD_own, toDs_nil, toDs_cons, views_nil, views_cons, tru_ap, lstAt_own, view_dat, view_own, viewK_lst, a_dat, a_var, a_bin, a_un, a_cmp, a_chn, a_and, a_or, andK_ap, orK_ap, chnK_ap, a_not, a_ite, iteK_ap, a_tup, a_lst, a_idx, a_cat, a_rep, a_slc, a_isi, a_blen, blenK_int, a_sortr, sortrK_list, a_call, a_bi, biK_some, a_com, comK_ok, es_nil, es_cons, ts_nil, ts_one, i_seq, i_enu, i_rng, b_nil, b_cons, s_asg, put_ap, s_ret, s_ite, ifK_ap, s_for, s_while, s_gc, s_raise, s_pass, s_app, s_aug, augK_dat, s_asgI, asgK_own,
  List.getElem?_cons_zero, List.getElem?_cons_succ, List.set_cons_zero, List.set_cons_succ, wipeV, bd_add, bd_sub, bd_and, bd_or, bd_xor, ud_neg, cd_lt, cd_le, cd_gt, cd_ge, cd_eq, cd_ne, bf_min2, bf_max2, bf_lenL, bf_lenT, bf_int, bf_intB, bf_abs, bl_list, tr_int, tr_bool, tr_list, sq_list, sq_tup, tgSet, setNs, callF, List.length_cons, List.length_nil, List.nil_append, List.cons_append, if_true, if_false, reduceIte, Bool.false_eq_true, Nat.le_refl, Nat.zero_le, List.length_map, List.length_append, List.map_cons, List.map_nil, List.replicate, Nat.reduceAdd, Nat.reduceSub, at_fn, at_r, hd, hr, hn, key, ha, ha2]
      rw [cat_own rfl rfl, em, ha3]
      simp only [bindK_ok, bindK_ex, noxK_ok, seqK_ex, thenK_ex, thenK_ok, thenK_ex, seqK_nx, seqK_rt, seqK_bk, seqK_ct, seqK_ex, varK_dat, varK_own, ofK_some, toDK_lst, lstK_lst, bind_ap, nox_ap, then_ap, ret_ap, of_ap, view_ap, toD_dat, toD_own, toDs_nil, toDs_cons, views_nil, views_cons, tru_ap, lstAt_own, view_dat, view_own, viewK_lst, a_dat, a_var, a_bin, a_un, a_cmp, a_chn, a_and, a_or, andK_ap, orK_ap, chnK_ap, a_not, a_ite, iteK_ap, a_tup, a_lst, a_idx, a_cat, a_rep, a_slc, a_isi, a_blen, blenK_int, a_sortr, sortrK_list, a_call, a_bi, biK_some, a_com, comK_ok, es_nil, es_cons, ts_nil, ts_one, i_seq, i_enu, i_rng, b_nil, b_cons, s_asg, put_ap, s_ret, s_ite, ifK_ap, s_for, s_while, s_gc, s_raise, s_pass, s_app, s_aug, augK_dat, s_asgI, asgK_own,
  List.getElem?_cons_zero, List.getElem?_cons_succ, List.set_cons_zero, List.set_cons_succ, wipeV, bd_add, bd_sub, bd_and, bd_or, bd_xor, ud_neg, cd_lt, cd_le, cd_gt, cd_ge, cd_eq, cd_ne, bf_min2, bf_max2, bf_lenL, bf_lenT, bf_int, bf_intB, bf_abs, bl_list, tr_int, tr_bool, tr_list, sq_list, sq_tup, tgSet, setNs, callF, List.length_cons, List.length_nil, List.nil_append, List.cons_append, if_true, if_false, reduceIte, Bool.false_eq_true, Nat.le_refl, Nat.zero_le, List.length_map, List.length_append, List.map_cons, List.map_nil, List.replicate, Nat.reduceAdd, Nat.reduceSub, at_fn, at_r, ints_nl, c3, ha4, hr, gcB2]
theorem basis_loop {Γ : Gm} (hr : Γ.r = 0) {a : PyData} : ∀ (rows B D : List Nat) (s : SV) (μ : List ON), B.Perm D → Bas D → BSt B s μ → B.length + rows.length ≤ 10000 → (∀ r ∈ rows, r < 2 ^ 20000) →
    ∃ (C : List Nat) (s' : SV) (μ' : List ON), C.Perm (rows.foldl ext D) ∧ BSt C s' μ' ∧ forGo (.nm 2) [2, 3] (exB Γ b__law_basis_3) (rows.map ni) ⟨[.dat a, s, .any, .any], μ⟩ = some (.nx ⟨[.dat a, s', .any, .any], μ'⟩)
  | [], B, D, s, μ, p, hD, hs, _, _ => ⟨B, s, μ, p, hs, rfl⟩
  | r :: rows, B, D, s, μ, p, hD, hs, hl, hb => by
    obtain ⟨C, s', μ', x, h1, h2, h3⟩ := basis_step hr (a := a) (r := r) hs (by simp at hl; omega) (hb r List.mem_cons_self)
    have p2 : C.Perm (ext D r) := h1.trans (Eng.ext_perm hD p r)
    have hlen := h1.length_eq
    have hx := ext_len B r
    obtain ⟨C2, s2, μ2, k1, k2, k3⟩ := basis_loop hr (a := a) rows C (ext D r) s' μ' p2 (Eng.bas_ext hD r) h2 (by simp at hl; omega) fun q hq => hb q (List.mem_cons_of_mem _ hq)
    refine ⟨C2, s2, μ2, k1, k2, ?_⟩
    rw [List.map_cons, forGo]
    simp only [bindK_ok, bindK_ex, noxK_ok, seqK_ex, thenK_ex, thenK_ok, thenK_ex, seqK_nx, seqK_rt, seqK_bk, seqK_ct, seqK_ex, varK_dat, varK_own, ofK_some, toDK_lst, lstK_lst, bind_ap, nox_ap, then_ap, ret_ap, of_ap, view_ap, toD_dat, toD_own, toDs_nil, toDs_cons, views_nil, views_cons, tru_ap, lstAt_own, view_dat, view_own, viewK_lst, a_dat, a_var, a_bin, a_un, a_cmp, a_chn, a_and, a_or, andK_ap, orK_ap, chnK_ap, a_not, a_ite, iteK_ap, a_tup, a_lst, a_idx, a_cat, a_rep, a_slc, a_isi, a_blen, blenK_int, a_sortr, sortrK_list, a_call, a_bi, biK_some, a_com, comK_ok, es_nil, es_cons, ts_nil, ts_one, i_seq, i_enu, i_rng, b_nil, b_cons, s_asg, put_ap, s_ret, s_ite, ifK_ap, s_for, s_while, s_gc, s_raise, s_pass, s_app, s_aug, augK_dat, s_asgI, asgK_own,
  List.getElem?_cons_zero, List.getElem?_cons_succ, List.set_cons_zero, List.set_cons_succ, wipeV, bd_add, bd_sub, bd_and, bd_or, bd_xor, ud_neg, cd_lt, cd_le, cd_gt, cd_ge, cd_eq, cd_ne, bf_min2, bf_max2, bf_lenL, bf_lenT, bf_int, bf_intB, bf_abs, bl_list, tr_int, tr_bool, tr_list, sq_list, sq_tup, tgSet, setNs, callF, List.length_cons, List.length_nil, List.nil_append, List.cons_append, if_true, if_false, reduceIte, Bool.false_eq_true, Nat.le_refl, Nat.zero_le, List.length_map, List.length_append, List.map_cons, List.map_nil, List.replicate, Nat.reduceAdd, Nat.reduceSub, at_fn, at_r, h3]
    exact k3
def Φ_basis : List SV → List ON → Option RO := runF (Gm0 subT) b__law_basis 1 4
theorem basis_run (rows : List Nat) (hl : rows.length ≤ 10000) (hb : ∀ r ∈ rows, r < 2 ^ 20000) : ∃ (C : List Nat) (ro : RO), C.Perm (PB rows) ∧ Φ_basis [.dat (nl rows)] [] = some ro ∧ ∀ A : AS, plainO false A (some ro) = some (.ok (.dat (nl C)) A) := by
  obtain ⟨C, s, μ, h1, h2, h3⟩ := basis_loop (Γ := (Gm0 subT).at 0) rfl (a := nl rows) rows [] [] (.own 0) [.lst []] (List.Perm.refl _) Eng.bas_nil (.inl ⟨rfl, rfl⟩) (by simpa using hl) hb
  have h0 := fun A : AS => alloc_own (A := A) (ds := []) (by simp)
  rcases h2 with ⟨rfl, rfl⟩ | ⟨rfl, rfl⟩
  · refine ⟨C, .ret (.own 0) [.lst (C.map ni)], h1, run_ret (sv := .own 0) (A := ⟨[.dat (nl rows), .own 0, .any, .any], [.lst (C.map ni)]⟩) rfl ?_ gc_own, fun A => plain_frz⟩
    unfold b__law_basis
    simp only [bindK_ok, bindK_ex, noxK_ok, seqK_ex, thenK_ex, thenK_ok, thenK_ex, seqK_nx, seqK_rt, seqK_bk, seqK_ct, seqK_ex, varK_dat, varK_own, ofK_some, toDK_lst, lstK_lst, bind_ap, nox_ap, then_ap, ret_ap, of_ap, view_ap, toD_dat, toD_own, toDs_nil, toDs_cons, views_nil, views_cons, tru_ap, lstAt_own, view_dat, view_own, viewK_lst, a_dat, a_var, a_bin, a_un, a_cmp, a_chn, a_and, a_or, andK_ap, orK_ap, chnK_ap, a_not, a_ite, iteK_ap, a_tup, a_lst, a_idx, a_cat, a_rep, a_slc, a_isi, a_blen, blenK_int, a_sortr, sortrK_list, a_call, a_bi, biK_some, a_com, comK_ok, es_nil, es_cons, ts_nil, ts_one, i_seq, i_enu, i_rng, b_nil, b_cons, s_asg, put_ap, s_ret, s_ite, ifK_ap, s_for, s_while, s_gc, s_raise, s_pass, s_app, s_aug, augK_dat, s_asgI, asgK_own,
  List.getElem?_cons_zero, List.getElem?_cons_succ, List.set_cons_zero, List.set_cons_succ, wipeV, bd_add, bd_sub, bd_and, bd_or, bd_xor, ud_neg, cd_lt, cd_le, cd_gt, cd_ge, cd_eq, cd_ne, bf_min2, bf_max2, bf_lenL, bf_lenT, bf_int, bf_intB, bf_abs, bl_list, tr_int, tr_bool, tr_list, sq_list, sq_tup, tgSet, setNs, callF, List.length_cons, List.length_nil, List.nil_append, List.cons_append, if_true, if_false, reduceIte, Bool.false_eq_true, Nat.le_refl, Nat.zero_le, List.length_map, List.length_append, List.map_cons, List.map_nil, List.replicate, Nat.reduceAdd, Nat.reduceSub, at_fn, at_r, h0, h3]
  · refine ⟨C, .ret (.dat (nl C)) [], h1, run_ret (sv := .dat (nl C)) (A := ⟨[.dat (nl rows), .dat (nl C), .any, .any], []⟩) rfl ?_ gc_dat, fun A => plain_dat⟩
    unfold b__law_basis
    simp only [bindK_ok, bindK_ex, noxK_ok, seqK_ex, thenK_ex, thenK_ok, thenK_ex, seqK_nx, seqK_rt, seqK_bk, seqK_ct, seqK_ex, varK_dat, varK_own, ofK_some, toDK_lst, lstK_lst, bind_ap, nox_ap, then_ap, ret_ap, of_ap, view_ap, toD_dat, toD_own, toDs_nil, toDs_cons, views_nil, views_cons, tru_ap, lstAt_own, view_dat, view_own, viewK_lst, a_dat, a_var, a_bin, a_un, a_cmp, a_chn, a_and, a_or, andK_ap, orK_ap, chnK_ap, a_not, a_ite, iteK_ap, a_tup, a_lst, a_idx, a_cat, a_rep, a_slc, a_isi, a_blen, blenK_int, a_sortr, sortrK_list, a_call, a_bi, biK_some, a_com, comK_ok, es_nil, es_cons, ts_nil, ts_one, i_seq, i_enu, i_rng, b_nil, b_cons, s_asg, put_ap, s_ret, s_ite, ifK_ap, s_for, s_while, s_gc, s_raise, s_pass, s_app, s_aug, augK_dat, s_asgI, asgK_own,
  List.getElem?_cons_zero, List.getElem?_cons_succ, List.set_cons_zero, List.set_cons_succ, wipeV, bd_add, bd_sub, bd_and, bd_or, bd_xor, ud_neg, cd_lt, cd_le, cd_gt, cd_ge, cd_eq, cd_ne, bf_min2, bf_max2, bf_lenL, bf_lenT, bf_int, bf_intB, bf_abs, bl_list, tr_int, tr_bool, tr_list, sq_list, sq_tup, tgSet, setNs, callF, List.length_cons, List.length_nil, List.nil_append, List.cons_append, if_true, if_false, reduceIte, Bool.false_eq_true, Nat.le_refl, Nat.zero_le, List.length_map, List.length_append, List.map_cons, List.map_nil, List.replicate, Nat.reduceAdd, Nat.reduceSub, at_fn, at_r, h0, h3]
/-! ### masks drawn -/
theorem ref_dat {k : Nat} {d : PyData} {qs : List PyData} {A : AS} : refO k false A (some (.ret (.dat d) [.lst qs])) = some (.ok (.dat d) ⟨A.ρ, A.μ.set k (.lst qs)⟩) := by simp [refO]
theorem ref_frz {k : Nat} {l qs : List PyData} {A : AS} : refO k false A (some (.ret (.own 1) [.lst qs, .lst l])) = some (.ok (.dat (.list l)) ⟨A.ρ, A.μ.set k (.lst qs)⟩) := by simp [refO]
theorem gcK {a b c d : PyData} {x y : List PyData} : gcA 1 ⟨[.own 0, .dat a, .dat b, .own 1, .dat c, .dat d], [.lst x, .lst y]⟩ = ⟨[.own 0, .dat a, .dat b, .own 1, .dat c, .dat d], [.lst x, .lst y]⟩ := rfl
theorem masks_step {Γ : Gm} (hΓ : Γ.fn "_law_draw" = Φ_draw) (hr : Γ.r = 1) {mo k : PyData} {ns : List Int} {p1 : Nat} {p2 p3 p4 : Int} {wd : Nat} {rows : List Nat} (h0 : 0 < wd) (hw : wd ≤ 900) (hl : rows.length ≤ 1000) (hb : ∀ r ∈ rows, r < 2 ^ wd) :
    ∃ (row q1 : Nat) (q2 q3 : Int) (x : PyData), row < 2 ^ wd ∧ exB Γ b__law_masks_1 ⟨[.own 0, .dat mo, .dat (ni wd), .own 1, .dat k, .any], [.lst (pl ns p1 p2 p3 p4), .lst (rows.map ni)]⟩ = some (.nx ⟨[.own 0, .dat mo, .dat (ni wd), .own 1, .dat k, .dat x], [.lst (pl ns q1 q2 q3 p4), .lst ((rows ++ [row]).map ni)]⟩) := by
  obtain ⟨v, a1, a2, a3, hv, hd⟩ := draw_run ns p1 p2 p3 p4 6 (by decide) (by decide)
  have hd6 : Φ_draw [.own 0, .dat (.int 6)] [.lst (pl ns p1 p2 p3 p4)] = some (.ret (.dat (ni v)) [.lst (pl ns a1 a2 a3 p4)]) := hd
  have hn2 : (rows.length < 100000) = True := by simp; omega
  by_cases c1 : v = 0 ∧ 1 < rows.length
  · obtain ⟨i, b1, b2, b3, hi, hdi⟩ := draw_run ns a1 a2 a3 p4 rows.length (by omega) (Nat.lt_of_le_of_lt hl (by decide))
    obtain ⟨j, d1, d2, d3, hj, hdj⟩ := draw_run ns b1 b2 b3 p4 rows.length (by omega) (Nat.lt_of_le_of_lt hl (by decide))
    have e1 : decide ((v : Int) = 0) = true := decide_eq_true (by omega)
    have e2 : decide ((1 : Int) < (rows.length : Int)) = true := decide_eq_true (by omega)
    have xi : ixD (.list (rows.map ni)) (.int (i : Int)) = some (ni rows[i]) := ix_list (by rw [List.getElem?_map, List.getElem?_eq_getElem hi]; rfl)
    have xj : ixD (.list (rows.map ni)) (.int (j : Int)) = some (ni rows[j]) := ix_list (by rw [List.getElem?_map, List.getElem?_eq_getElem hj]; rfl)
    refine ⟨rows[i] ^^^ rows[j], d1, d2, d3, ni v, Nat.xor_lt_two_pow (hb _ (List.getElem_mem hi)) (hb _ (List.getElem_mem hj)), ?_⟩
    unfold b__law_masks_1
    simp only [bindK_ok, bindK_ex, noxK_ok, seqK_ex, thenK_ex, thenK_ok, thenK_ex, seqK_nx, seqK_rt, seqK_bk, seqK_ct, seqK_ex, varK_dat, varK_own, ofK_some, toDK_lst, lstK_lst, bind_ap, nox_ap, then_ap, ret_ap, of_ap, view_ap, toD_dat, toD_own, toDs_nil, toDs_cons, views_nil, views_cons, tru_ap, lstAt_own, view_dat, view_own, viewK_lst, a_dat, a_var, a_bin, a_un, a_cmp, a_chn, a_and, a_or, andK_ap, orK_ap, chnK_ap, a_not, a_ite, iteK_ap, a_tup, a_lst, a_idx, a_cat, a_rep, a_slc, a_isi, a_blen, blenK_int, a_sortr, sortrK_list, a_call, a_bi, biK_some, a_com, comK_ok, es_nil, es_cons, ts_nil, ts_one, i_seq, i_enu, i_rng, b_nil, b_cons, s_asg, put_ap, s_ret, s_ite, ifK_ap, s_for, s_while, s_gc, s_raise, s_pass, s_app, s_aug, augK_dat, s_asgI, asgK_own,
  List.getElem?_cons_zero, List.getElem?_cons_succ, List.set_cons_zero, List.set_cons_succ, wipeV, bd_add, bd_sub, bd_and, bd_or, bd_xor, ud_neg, cd_lt, cd_le, cd_gt, cd_ge, cd_eq, cd_ne, bf_min2, bf_max2, bf_lenL, bf_lenT, bf_int, bf_intB, bf_abs, bl_list, tr_int, tr_bool, tr_list, sq_list, sq_tup, tgSet, setNs, callF, List.length_cons, List.length_nil, List.nil_append, List.cons_append, if_true, if_false, reduceIte, Bool.false_eq_true, Nat.le_refl, Nat.zero_le, List.length_map, List.length_append, List.map_cons, List.map_nil, List.replicate, Nat.reduceAdd, Nat.reduceSub, at_fn, at_r, hΓ, hd6, ref_dat, e1, e2, hdi, hdj, xi, xj, xor_c, hn2, hr, gcK, List.map_append]
  · by_cases c2 : v = 1
    · obtain ⟨u, b1, b2, b3, hu, hdu⟩ := draw_run ns a1 a2 a3 p4 wd h0 (Nat.lt_of_le_of_lt hw (by decide))
      have e1 : decide ((v : Int) = 0) = false := decide_eq_false (by omega)
      have e2 : decide ((v : Int) = 1) = true := decide_eq_true (by omega)
      refine ⟨2 ^ u, b1, b2, b3, ni v, Nat.pow_lt_pow_right (by decide) hu, ?_⟩
      unfold b__law_masks_1
      simp only [bindK_ok, bindK_ex, noxK_ok, seqK_ex, thenK_ex, thenK_ok, thenK_ex, seqK_nx, seqK_rt, seqK_bk, seqK_ct, seqK_ex, varK_dat, varK_own, ofK_some, toDK_lst, lstK_lst, bind_ap, nox_ap, then_ap, ret_ap, of_ap, view_ap, toD_dat, toD_own, toDs_nil, toDs_cons, views_nil, views_cons, tru_ap, lstAt_own, view_dat, view_own, viewK_lst, a_dat, a_var, a_bin, a_un, a_cmp, a_chn, a_and, a_or, andK_ap, orK_ap, chnK_ap, a_not, a_ite, iteK_ap, a_tup, a_lst, a_idx, a_cat, a_rep, a_slc, a_isi, a_blen, blenK_int, a_sortr, sortrK_list, a_call, a_bi, biK_some, a_com, comK_ok, es_nil, es_cons, ts_nil, ts_one, i_seq, i_enu, i_rng, b_nil, b_cons, s_asg, put_ap, s_ret, s_ite, ifK_ap, s_for, s_while, s_gc, s_raise, s_pass, s_app, s_aug, augK_dat, s_asgI, asgK_own,
  List.getElem?_cons_zero, List.getElem?_cons_succ, List.set_cons_zero, List.set_cons_succ, wipeV, bd_add, bd_sub, bd_and, bd_or, bd_xor, ud_neg, cd_lt, cd_le, cd_gt, cd_ge, cd_eq, cd_ne, bf_min2, bf_max2, bf_lenL, bf_lenT, bf_int, bf_intB, bf_abs, bl_list, tr_int, tr_bool, tr_list, sq_list, sq_tup, tgSet, setNs, callF, List.length_cons, List.length_nil, List.nil_append, List.cons_append, if_true, if_false, reduceIte, Bool.false_eq_true, Nat.le_refl, Nat.zero_le, List.length_map, List.length_append, List.map_cons, List.map_nil, List.replicate, Nat.reduceAdd, Nat.reduceSub, at_fn, at_r, hΓ, hd6, ref_dat, e1, e2, hdu, shl1_c (n := u) (by omega), hn2, hr, gcK, List.map_append]
    · obtain ⟨u, b1, b2, b3, hu, hdu⟩ := draw_run ns a1 a2 a3 p4 (2 ^ wd) (Nat.pow_pos (by decide)) (Nat.pow_lt_pow_right (by decide) (by omega))
      have e2 : decide ((v : Int) = 1) = false := decide_eq_false (by omega)
      refine ⟨u, b1, b2, b3, ni v, hu, ?_⟩
      unfold b__law_masks_1
      by_cases c3 : v = 0
      · have e1 : decide ((v : Int) = 0) = true := decide_eq_true (by omega)
        have e3 : decide ((1 : Int) < (rows.length : Int)) = false := decide_eq_false (by have : ¬ 1 < rows.length := fun z => c1 ⟨c3, z⟩; omega)
        simp only [bindK_ok, bindK_ex, noxK_ok, seqK_ex, thenK_ex, thenK_ok, thenK_ex, seqK_nx, seqK_rt, seqK_bk, seqK_ct, seqK_ex, varK_dat, varK_own, ofK_some, toDK_lst, lstK_lst, bind_ap, nox_ap, then_ap, ret_ap, of_ap, view_ap, toD_dat, toD_own, toDs_nil, toDs_cons, views_nil, views_cons, tru_ap, lstAt_own, view_dat, view_own, viewK_lst, a_dat, a_var, a_bin, a_un, a_cmp, a_chn, a_and, a_or, andK_ap, orK_ap, chnK_ap, a_not, a_ite, iteK_ap, a_tup, a_lst, a_idx, a_cat, a_rep, a_slc, a_isi, a_blen, blenK_int, a_sortr, sortrK_list, a_call, a_bi, biK_some, a_com, comK_ok, es_nil, es_cons, ts_nil, ts_one, i_seq, i_enu, i_rng, b_nil, b_cons, s_asg, put_ap, s_ret, s_ite, ifK_ap, s_for, s_while, s_gc, s_raise, s_pass, s_app, s_aug, augK_dat, s_asgI, asgK_own,
  List.getElem?_cons_zero, List.getElem?_cons_succ, List.set_cons_zero, List.set_cons_succ, wipeV, bd_add, bd_sub, bd_and, bd_or, bd_xor, ud_neg, cd_lt, cd_le, cd_gt, cd_ge, cd_eq, cd_ne, bf_min2, bf_max2, bf_lenL, bf_lenT, bf_int, bf_intB, bf_abs, bl_list, tr_int, tr_bool, tr_list, sq_list, sq_tup, tgSet, setNs, callF, List.length_cons, List.length_nil, List.nil_append, List.cons_append, if_true, if_false, reduceIte, Bool.false_eq_true, Nat.le_refl, Nat.zero_le, List.length_map, List.length_append, List.map_cons, List.map_nil, List.replicate, Nat.reduceAdd, Nat.reduceSub, at_fn, at_r, hΓ, hd6, ref_dat, e1, e2, e3, hdu, shl1_c (n := wd) (by omega), hn2, hr, gcK, List.map_append]
      · have e1 : decide ((v : Int) = 0) = false := decide_eq_false (by omega)
        simp only [bindK_ok, bindK_ex, noxK_ok, seqK_ex, thenK_ex, thenK_ok, thenK_ex, seqK_nx, seqK_rt, seqK_bk, seqK_ct, seqK_ex, varK_dat, varK_own, ofK_some, toDK_lst, lstK_lst, bind_ap, nox_ap, then_ap, ret_ap, of_ap, view_ap, toD_dat, toD_own, toDs_nil, toDs_cons, views_nil, views_cons, tru_ap, lstAt_own, view_dat, view_own, viewK_lst, a_dat, a_var, a_bin, a_un, a_cmp, a_chn, a_and, a_or, andK_ap, orK_ap, chnK_ap, a_not, a_ite, iteK_ap, a_tup, a_lst, a_idx, a_cat, a_rep, a_slc, a_isi, a_blen, blenK_int, a_sortr, sortrK_list, a_call, a_bi, biK_some, a_com, comK_ok, es_nil, es_cons, ts_nil, ts_one, i_seq, i_enu, i_rng, b_nil, b_cons, s_asg, put_ap, s_ret, s_ite, ifK_ap, s_for, s_while, s_gc, s_raise, s_pass, s_app, s_aug, augK_dat, s_asgI, asgK_own,
  List.getElem?_cons_zero, List.getElem?_cons_succ, List.set_cons_zero, List.set_cons_succ, wipeV, bd_add, bd_sub, bd_and, bd_or, bd_xor, ud_neg, cd_lt, cd_le, cd_gt, cd_ge, cd_eq, cd_ne, bf_min2, bf_max2, bf_lenL, bf_lenT, bf_int, bf_intB, bf_abs, bl_list, tr_int, tr_bool, tr_list, sq_list, sq_tup, tgSet, setNs, callF, List.length_cons, List.length_nil, List.nil_append, List.cons_append, if_true, if_false, reduceIte, Bool.false_eq_true, Nat.le_refl, Nat.zero_le, List.length_map, List.length_append, List.map_cons, List.map_nil, List.replicate, Nat.reduceAdd, Nat.reduceSub, at_fn, at_r, hΓ, hd6, ref_dat, e1, e2, hdu, shl1_c (n := wd) (by omega), hn2, hr, gcK, List.map_append]
theorem masks_loop {Γ : Gm} (hΓ : Γ.fn "_law_draw" = Φ_draw) (hr : Γ.r = 1) {mo : PyData} {ns : List Int} {p4 : Int} {wd : Nat} (h0 : 0 < wd) (hw : wd ≤ 900) : ∀ (ds : List PyData) (rows : List Nat) (p1 : Nat) (p2 p3 : Int), rows.length + ds.length ≤ 1000 → (∀ r ∈ rows, r < 2 ^ wd) →
    ∃ (rows' : List Nat) (q1 : Nat) (q2 q3 : Int), rows'.length ≤ rows.length + ds.length ∧ (∀ r ∈ rows', r < 2 ^ wd) ∧ forGo (.nm 4) [4, 5] (exB Γ b__law_masks_1) ds ⟨[.own 0, .dat mo, .dat (ni wd), .own 1, .any, .any], [.lst (pl ns p1 p2 p3 p4), .lst (rows.map ni)]⟩ = some (.nx ⟨[.own 0, .dat mo, .dat (ni wd), .own 1, .any, .any], [.lst (pl ns q1 q2 q3 p4), .lst (rows'.map ni)]⟩)
  | [], rows, p1, p2, p3, _, hb => ⟨rows, p1, p2, p3, by simp, hb, rfl⟩
  | d :: ds, rows, p1, p2, p3, hl, hb => by
    obtain ⟨row, q1, q2, q3, x, h1, h2⟩ := masks_step hΓ hr (mo := mo) (k := d) (ns := ns) (p1 := p1) (p2 := p2) (p3 := p3) (p4 := p4) h0 hw (rows := rows) (by simp at hl; omega) hb
    obtain ⟨rows', r1, r2, r3, k1, k2, k3⟩ := masks_loop hΓ hr (mo := mo) (ns := ns) (p4 := p4) h0 hw ds (rows ++ [row]) q1 q2 q3 (by simp at hl ⊢; omega) (fun r hr2 => by
      rcases List.mem_append.mp hr2 with z | z
      · exact hb r z
      · rw [List.mem_singleton.mp z]; exact h1)
    refine ⟨rows', r1, r2, r3, by simp at k1 ⊢; omega, k2, ?_⟩
    rw [forGo]
    simp only [bindK_ok, bindK_ex, noxK_ok, seqK_ex, thenK_ex, thenK_ok, thenK_ex, seqK_nx, seqK_rt, seqK_bk, seqK_ct, seqK_ex, varK_dat, varK_own, ofK_some, toDK_lst, lstK_lst, bind_ap, nox_ap, then_ap, ret_ap, of_ap, view_ap, toD_dat, toD_own, toDs_nil, toDs_cons, views_nil, views_cons, tru_ap, lstAt_own, view_dat, view_own, viewK_lst, a_dat, a_var, a_bin, a_un, a_cmp, a_chn, a_and, a_or, andK_ap, orK_ap, chnK_ap, a_not, a_ite, iteK_ap, a_tup, a_lst, a_idx, a_cat, a_rep, a_slc, a_isi, a_blen, blenK_int, a_sortr, sortrK_list, a_call, a_bi, biK_some, a_com, comK_ok, es_nil, es_cons, ts_nil, ts_one, i_seq, i_enu, i_rng, b_nil, b_cons, s_asg, put_ap, s_ret, s_ite, ifK_ap, s_for, s_while, s_gc, s_raise, s_pass, s_app, s_aug, augK_dat, s_asgI, asgK_own,
  List.getElem?_cons_zero, List.getElem?_cons_succ, List.set_cons_zero, List.set_cons_succ, wipeV, bd_add, bd_sub, bd_and, bd_or, bd_xor, ud_neg, cd_lt, cd_le, cd_gt, cd_ge, cd_eq, cd_ne, bf_min2, bf_max2, bf_lenL, bf_lenT, bf_int, bf_intB, bf_abs, bl_list, tr_int, tr_bool, tr_list, sq_list, sq_tup, tgSet, setNs, callF, List.length_cons, List.length_nil, List.nil_append, List.cons_append, if_true, if_false, reduceIte, Bool.false_eq_true, Nat.le_refl, Nat.zero_le, List.length_map, List.length_append, List.map_cons, List.map_nil, List.replicate, Nat.reduceAdd, Nat.reduceSub, at_fn, at_r, h2]
    exact k3
def Γk : Gm := (Gm0 subT).add "_law_draw" Φ_draw
theorem Γk_d : Γk.fn "_law_draw" = Φ_draw := Gm.add_same
def Φ_masks : List SV → List ON → Option RO := runF Γk b__law_masks 3 6
theorem gcK2 {x y : List PyData} : gcA 1 ⟨[.own 1], [.lst x, .lst y]⟩ = ⟨[.own 1], [.lst x, .lst y]⟩ := rfl
theorem masks_run (ns : List Int) (p1 : Nat) (p2 p3 p4 : Int) (mo wd : Nat) (h0 : 0 < wd) (hw : wd ≤ 900) (hm : mo ≤ 500) : ∃ (rows : List Nat) (q1 : Nat) (q2 q3 : Int), rows.length ≤ 500 ∧ (∀ r ∈ rows, r < 2 ^ wd) ∧ Φ_masks [.own 0, .dat (ni mo), .dat (ni wd)] [.lst (pl ns p1 p2 p3 p4)] = some (.ret (.own 1) [.lst (pl ns q1 q2 q3 p4), .lst (rows.map ni)]) := by
  obtain ⟨v, a1, a2, a3, hv, hd⟩ := draw_run ns p1 p2 p3 p4 (mo + 1) (by omega) (Nat.lt_of_le_of_lt (by omega : mo + 1 ≤ 501) (by decide))
  have hd2 : Φ_draw [.own 0, .dat (.int ((mo : Int) + 1))] [.lst (pl ns p1 p2 p3 p4)] = some (.ret (.dat (ni v)) [.lst (pl ns a1 a2 a3 p4)]) := by exact_mod_cast hd
  have hrl : (rngD 0 (v : Int).toNat).length = v := by simp [rngD]
  obtain ⟨rows', r1, r2, r3, k1, k2, k3⟩ := masks_loop (Γ := Γk.at 1) Γk_d rfl (mo := ni mo) (ns := ns) (p4 := p4) h0 hw (rngD 0 (v : Int).toNat) [] a1 a2 a3 (by rw [hrl]; simp; omega) (fun r hr => by cases hr)
  have hal := fun A : AS => alloc_own (A := A) (ds := []) (by simp)
  refine ⟨rows', r1, r2, r3, by rw [hrl] at k1; simp at k1; omega, k2, run_ret (sv := .own 1) (A := ⟨[.own 0, .dat (ni mo), .dat (ni wd), .own 1, .any, .any], [.lst (pl ns r1 r2 r3 p4), .lst (rows'.map ni)]⟩) rfl ?_ gcK2⟩
  unfold b__law_masks
  simp only [bindK_ok, bindK_ex, noxK_ok, seqK_ex, thenK_ex, thenK_ok, thenK_ex, seqK_nx, seqK_rt, seqK_bk, seqK_ct, seqK_ex, varK_dat, varK_own, ofK_some, toDK_lst, lstK_lst, bind_ap, nox_ap, then_ap, ret_ap, of_ap, view_ap, toD_dat, toD_own, toDs_nil, toDs_cons, views_nil, views_cons, tru_ap, lstAt_own, view_dat, view_own, viewK_lst, a_dat, a_var, a_bin, a_un, a_cmp, a_chn, a_and, a_or, andK_ap, orK_ap, chnK_ap, a_not, a_ite, iteK_ap, a_tup, a_lst, a_idx, a_cat, a_rep, a_slc, a_isi, a_blen, blenK_int, a_sortr, sortrK_list, a_call, a_bi, biK_some, a_com, comK_ok, es_nil, es_cons, ts_nil, ts_one, i_seq, i_enu, i_rng, b_nil, b_cons, s_asg, put_ap, s_ret, s_ite, ifK_ap, s_for, s_while, s_gc, s_raise, s_pass, s_app, s_aug, augK_dat, s_asgI, asgK_own,
  List.getElem?_cons_zero, List.getElem?_cons_succ, List.set_cons_zero, List.set_cons_succ, wipeV, bd_add, bd_sub, bd_and, bd_or, bd_xor, ud_neg, cd_lt, cd_le, cd_gt, cd_ge, cd_eq, cd_ne, bf_min2, bf_max2, bf_lenL, bf_lenT, bf_int, bf_intB, bf_abs, bl_list, tr_int, tr_bool, tr_list, sq_list, sq_tup, tgSet, setNs, callF, List.length_cons, List.length_nil, List.nil_append, List.cons_append, if_true, if_false, reduceIte, Bool.false_eq_true, Nat.le_refl, Nat.zero_le, List.length_map, List.length_append, List.map_cons, List.map_nil, List.replicate, Nat.reduceAdd, Nat.reduceSub, at_fn, at_r, hal, Γk_d, hd2, ref_dat, rngK_int (n := (v : Int)) (by omega)]
  rw [show ([] : List PyData) = ([] : List Nat).map ni from rfl, k3]
  simp only [bindK_ok, bindK_ex, noxK_ok, seqK_ex, thenK_ex, thenK_ok, thenK_ex, seqK_nx, seqK_rt, seqK_bk, seqK_ct, seqK_ex, varK_dat, varK_own, ofK_some, toDK_lst, lstK_lst, bind_ap, nox_ap, then_ap, ret_ap, of_ap, view_ap, toD_dat, toD_own, toDs_nil, toDs_cons, views_nil, views_cons, tru_ap, lstAt_own, view_dat, view_own, viewK_lst, a_dat, a_var, a_bin, a_un, a_cmp, a_chn, a_and, a_or, andK_ap, orK_ap, chnK_ap, a_not, a_ite, iteK_ap, a_tup, a_lst, a_idx, a_cat, a_rep, a_slc, a_isi, a_blen, blenK_int, a_sortr, sortrK_list, a_call, a_bi, biK_some, a_com, comK_ok, es_nil, es_cons, ts_nil, ts_one, i_seq, i_enu, i_rng, b_nil, b_cons, s_asg, put_ap, s_ret, s_ite, ifK_ap, s_for, s_while, s_gc, s_raise, s_pass, s_app, s_aug, augK_dat, s_asgI, asgK_own,
  List.getElem?_cons_zero, List.getElem?_cons_succ, List.set_cons_zero, List.set_cons_succ, wipeV, bd_add, bd_sub, bd_and, bd_or, bd_xor, ud_neg, cd_lt, cd_le, cd_gt, cd_ge, cd_eq, cd_ne, bf_min2, bf_max2, bf_lenL, bf_lenT, bf_int, bf_intB, bf_abs, bl_list, tr_int, tr_bool, tr_list, sq_list, sq_tup, tgSet, setNs, callF, List.length_cons, List.length_nil, List.nil_append, List.cons_append, if_true, if_false, reduceIte, Bool.false_eq_true, Nat.le_refl, Nat.zero_le, List.length_map, List.length_append, List.map_cons, List.map_nil, List.replicate, Nat.reduceAdd, Nat.reduceSub, at_fn, at_r]
end Pf

set_option Elab.async false
set_option linter.all false
set_option maxRecDepth 100000
set_option maxHeartbeats 4000000
/-! sums of masks -/
namespace Eng
inductive InSp (B : List Nat) : Nat → Prop
  | zero : InSp B 0
  | add {m b : Nat} : InSp B m → b ∈ B → InSp B (m ^^^ b)
theorem InSp.one {B : List Nat} {b : Nat} (h : b ∈ B) : InSp B b := by
  have := InSp.add (InSp.zero (B := B)) h
  rwa [Nat.zero_xor] at this
theorem InSp.xor {B : List Nat} {m k : Nat} (h : InSp B m) (h2 : InSp B k) : InSp B (m ^^^ k) := by
  induction h2 with
  | zero => rwa [Nat.xor_zero]
  | add _ hb ih => rw [← Nat.xor_assoc]; exact .add ih hb
theorem InSp.mono {B C : List Nat} {m : Nat} (h : InSp B m) (hc : ∀ b ∈ B, InSp C b) : InSp C m := by
  induction h with
  | zero => exact .zero
  | add _ hb ih => exact ih.xor (hc _ hb)
theorem rstep_zero (r : Nat) : rstep 0 r = 0 := Nat.zero_min _
theorem red_zero : ∀ B : List Nat, red B 0 = 0
  | [] => rfl
  | b :: B => by rw [red_cons, rstep_zero]; exact red_zero B
theorem xx (a b r : Nat) : (a ^^^ r) ^^^ (b ^^^ r) = a ^^^ b := by
  rw [Nat.xor_comm b r, Nat.xor_assoc, ← Nat.xor_assoc r r b, Nat.xor_self, Nat.zero_xor]
theorem rstep_xor {a b r : Nat} (hr : r ≠ 0) : rstep (a ^^^ b) r = rstep a r ^^^ rstep b r := by
  rw [rstep_eq hr, rstep_eq hr, rstep_eq hr, Nat.testBit_xor]
  cases a.testBit (lead r) <;> cases b.testBit (lead r)
  · rfl
  · show a ^^^ b ^^^ r = a ^^^ (b ^^^ r); rw [Nat.xor_assoc]
  · show a ^^^ b ^^^ r = (a ^^^ r) ^^^ b; rw [Nat.xor_assoc, Nat.xor_comm b r, ← Nat.xor_assoc]
  · show a ^^^ b = (a ^^^ r) ^^^ (b ^^^ r); rw [xx]
theorem red_xor : ∀ {B : List Nat} (a b : Nat), (∀ c ∈ B, c ≠ 0) → red B (a ^^^ b) = red B a ^^^ red B b
  | [], _, _, _ => rfl
  | c :: B, a, b, h => by
    rw [red_cons, red_cons, red_cons, rstep_xor (h c List.mem_cons_self)]
    exact red_xor _ _ fun d hd => h d (List.mem_cons_of_mem _ hd)
theorem red_mem : ∀ {B : List Nat} {b : Nat}, Bas B → b ∈ B → red B b = 0
  | [], _, _, h => by cases h
  | c :: B, b, hB, h => by
    obtain ⟨h1, h2, h3⟩ := hB.cons
    rw [red_cons]
    rcases List.mem_cons.mp h with e | h
    · subst e
      have : rstep b b = 0 := by unfold rstep; rw [Nat.xor_self]; exact Nat.min_zero _
      rw [this]; exact red_zero B
    · have : rstep b c = b := by rw [rstep_eq h1, (h2 b h).1]; rfl
      rw [this]; exact red_mem h3 h
theorem red_sp {B : List Nat} {m : Nat} (hB : Bas B) (h : InSp B m) : red B m = 0 := by
  induction h with
  | zero => exact red_zero B
  | add _ hb ih => rw [red_xor _ _ hB.nz, ih, red_mem hB hb]; rfl
theorem sp_red : ∀ (B : List Nat) (m : Nat), (∀ c ∈ B, c ≠ 0) → InSp B (m ^^^ red B m)
  | [], m, _ => by show InSp [] (m ^^^ m); rw [Nat.xor_self]; exact .zero
  | c :: B, m, h => by
    have hc := h c List.mem_cons_self
    have ih := (sp_red B (rstep m c) fun d hd => h d (List.mem_cons_of_mem _ hd)).mono (C := c :: B) fun d hd => .one (List.mem_cons_of_mem _ hd)
    rw [red_cons]
    have e : m ^^^ red B (rstep m c) = (m ^^^ rstep m c) ^^^ (rstep m c ^^^ red B (rstep m c)) := by
      rw [Nat.xor_assoc, ← Nat.xor_assoc (rstep m c) (rstep m c), Nat.xor_self, Nat.zero_xor]
    rw [e]
    refine InSp.xor ?_ ih
    rw [rstep_eq hc]
    split
    · rw [← Nat.xor_assoc, Nat.xor_self, Nat.zero_xor]; exact .one List.mem_cons_self
    · rw [Nat.xor_self]; exact .zero
theorem sp_iff {B : List Nat} {m : Nat} (hB : Bas B) : red B m = 0 ↔ InSp B m := ⟨fun h => by
  have := sp_red B m hB.nz
  rwa [h, Nat.xor_zero] at this, red_sp hB⟩
theorem elim_or (r b : Nat) : elim r b = b ∨ elim r b = b ^^^ r := by
  unfold elim
  split
  · exact .inr rfl
  · exact .inl rfl
theorem ext_up {B : List Nat} {r : Nat} (hB : Bas B) : (∀ b ∈ B, InSp (ext B r) b) ∧ InSp (ext B r) r := by
  unfold ext
  split
  · rename_i h0
    exact ⟨fun b hb => .one hb, (sp_iff hB).mp h0⟩
  · have hρ : InSp (B.map (elim (red B r)) ++ [red B r]) (red B r) := .one (List.mem_append_right _ List.mem_cons_self)
    have hb : ∀ b ∈ B, InSp (B.map (elim (red B r)) ++ [red B r]) b := fun b hb => by
      have he : InSp (B.map (elim (red B r)) ++ [red B r]) (elim (red B r) b) := .one (List.mem_append_left _ (List.mem_map.mpr ⟨b, hb, rfl⟩))
      rcases elim_or (red B r) b with e | e
      · rwa [e] at he
      · have z := he.xor hρ
        rwa [e, Nat.xor_assoc, Nat.xor_self, Nat.xor_zero] at z
    refine ⟨hb, ?_⟩
    have z := ((sp_red B r hB.nz).mono hb).xor hρ
    rwa [Nat.xor_assoc, Nat.xor_self, Nat.xor_zero] at z
theorem ext_dn {B : List Nat} {r : Nat} (hB : Bas B) : ∀ c ∈ ext B r, InSp (r :: B) c := by
  have hB2 : ∀ b ∈ B, InSp (r :: B) b := fun b hb => .one (List.mem_cons_of_mem _ hb)
  have hρ : InSp (r :: B) (red B r) := by
    have z := (InSp.one (B := r :: B) List.mem_cons_self).xor ((sp_red B r hB.nz).mono hB2)
    rwa [← Nat.xor_assoc, Nat.xor_self, Nat.zero_xor] at z
  intro c hc
  unfold ext at hc
  split at hc
  · exact hB2 c hc
  · rcases List.mem_append.mp hc with hc | hc
    · obtain ⟨b, hb, rfl⟩ := List.mem_map.mp hc
      rcases elim_or (red B r) b with e | e
      · rw [e]; exact hB2 b hb
      · rw [e]; exact (hB2 b hb).xor hρ
    · rw [List.mem_singleton.mp hc]; exact hρ
theorem fold_sp : ∀ (rows B : List Nat) (m : Nat), Bas B → (InSp (rows.foldl ext B) m ↔ InSp (B ++ rows) m)
  | [], B, m, _ => by rw [List.append_nil]; rfl
  | r :: rows, B, m, hB => by
    rw [List.foldl_cons, fold_sp rows (ext B r) m (bas_ext hB r)]
    obtain ⟨h1, h2⟩ := ext_up (r := r) hB
    have up : ∀ {c}, InSp (ext B r) c → InSp (ext B r ++ rows) c := fun h => h.mono fun b hb => .one (List.mem_append_left _ hb)
    constructor
    · refine fun h => h.mono fun c hc => ?_
      rcases List.mem_append.mp hc with hc | hc
      · refine (ext_dn hB c hc).mono fun b hb => ?_
        rcases List.mem_cons.mp hb with e | hb
        · rw [e]; exact .one (List.mem_append_right _ List.mem_cons_self)
        · exact .one (List.mem_append_left _ hb)
      · exact .one (List.mem_append_right _ (List.mem_cons_of_mem _ hc))
    · refine fun h => h.mono fun c hc => ?_
      rcases List.mem_append.mp hc with hc | hc
      · exact up (h1 c hc)
      · rcases List.mem_cons.mp hc with e | hc
        · rw [e]; exact up h2
        · exact .one (List.mem_append_right _ hc)
theorem PB_sp (rows : List Nat) (m : Nat) : red (PB rows) m = 0 ↔ InSp rows m := by
  rw [sp_iff (bas_PB rows)]
  exact fold_sp rows [] m bas_nil
/-- the sum of the masks whose numbers are members -/
def XS : List Nat → Nat → Nat
  | [], _ => 0
  | r :: rs, T => (if T % 2 = 1 then r else 0) ^^^ XS rs (T / 2)
theorem XS_zero : ∀ rows : List Nat, XS rows 0 = 0
  | [] => rfl
  | r :: rs => by show (if 0 % 2 = 1 then r else 0) ^^^ XS rs (0 / 2) = 0; rw [Nat.zero_div, XS_zero rs]; simp
theorem XS_xor : ∀ (rows : List Nat) (S T : Nat), XS rows (S ^^^ T) = XS rows S ^^^ XS rows T
  | [], _, _ => (Nat.xor_self 0).symm
  | r :: rs, S, T => by
    show (if (S ^^^ T) % 2 = 1 then r else 0) ^^^ XS rs ((S ^^^ T) / 2) = _
    rw [Nat.xor_div_two, XS_xor rs]
    show _ = ((if S % 2 = 1 then r else 0) ^^^ XS rs (S / 2)) ^^^ ((if T % 2 = 1 then r else 0) ^^^ XS rs (T / 2))
    have e : (if (S ^^^ T) % 2 = 1 then r else 0) = (if S % 2 = 1 then r else 0) ^^^ (if T % 2 = 1 then r else 0) := by
      have h0 := Nat.testBit_xor S T 0
      rw [Nat.testBit_zero, Nat.testBit_zero, Nat.testBit_zero] at h0
      by_cases h1 : S % 2 = 1 <;> by_cases h2 : T % 2 = 1 <;> simp [h1, h2] at h0 ⊢ <;> simp [h0]
    rw [e]
    generalize (if S % 2 = 1 then r else 0) = a
    generalize (if T % 2 = 1 then r else 0) = b
    generalize XS rs (S / 2) = x
    generalize XS rs (T / 2) = y
    rw [Nat.xor_assoc, Nat.xor_assoc, ← Nat.xor_assoc b, Nat.xor_comm b x, Nat.xor_assoc x b y]
theorem XS_pow : ∀ (rows : List Nat) (k : Nat), XS rows (2 ^ k) = rows.getD k 0
  | [], k => rfl
  | r :: rs, 0 => by show (if 1 % 2 = 1 then r else 0) ^^^ XS rs (1 / 2) = r; rw [show 1 / 2 = 0 from rfl, XS_zero, Nat.xor_zero]; rfl
  | r :: rs, k + 1 => by
    show (if 2 ^ (k + 1) % 2 = 1 then r else 0) ^^^ XS rs (2 ^ (k + 1) / 2) = rs.getD k 0
    rw [Nat.pow_succ, Nat.mul_mod_left, Nat.mul_div_cancel _ (by decide), XS_pow rs k, if_neg (by decide), Nat.zero_xor]
theorem XS_bits : ∀ (rows : List Nat) (T a : Nat), T < 2 ^ rows.length → (bits T).foldl (fun t k => t ^^^ rows.getD k 0) a = a ^^^ XS rows T
  | [], T, a, h => by
    have e : T = 0 := by simpa using h
    subst e
    rw [bits_zero]; show a = a ^^^ 0; rw [Nat.xor_zero]
  | r :: rs, T, a, h => by
    rw [bits_eq, List.foldl_append, List.foldl_map]
    have h2 : T / 2 < 2 ^ rs.length := by rw [List.length_cons, Nat.pow_succ] at h; omega
    have ih := fun a => XS_bits rs (T / 2) a h2
    show (bits (T / 2)).foldl (fun t k => t ^^^ rs.getD k 0) _ = _
    rw [ih]
    show _ = a ^^^ ((if T % 2 = 1 then r else 0) ^^^ XS rs (T / 2))
    split
    · show (a ^^^ r) ^^^ _ = _; rw [Nat.xor_assoc]
    · rw [Nat.zero_xor]; rfl
theorem XS_in : ∀ (rows : List Nat) (T : Nat), InSp rows (XS rows T)
  | [], _ => .zero
  | r :: rs, T => by
    refine InSp.xor ?_ ((XS_in rs (T / 2)).mono fun b hb => .one (List.mem_cons_of_mem _ hb))
    split
    · exact .one List.mem_cons_self
    · exact .zero
end Eng

set_option Elab.async false
set_option linter.all false
set_option maxRecDepth 100000
set_option maxHeartbeats 4000000
namespace Pf
open PySem PySem.Spec PyProof.Rows L2 Py
open Eng (red rstep PB Bas ext elim lead ext_len PB_len nats_of InSp)
theorem or_xor {b n k : Nat} (h : k < n) : b * 2 ^ n ||| 2 ^ k = b * 2 ^ n ^^^ 2 ^ k := by
  apply Nat.eq_of_testBit_eq
  intro i
  rw [Nat.testBit_or, Nat.testBit_xor, Nat.testBit_mul_two_pow, Nat.testBit_two_pow]
  by_cases hi : k = i
  · subst hi
    have : decide (n ≤ k) = false := decide_eq_false (by omega)
    rw [this]; simp
  · rw [decide_eq_false hi]; simp
theorem xor_shift (a b n : Nat) : (a ^^^ b) * 2 ^ n = a * 2 ^ n ^^^ b * 2 ^ n := by
  rw [← Nat.shiftLeft_eq, ← Nat.shiftLeft_eq, ← Nat.shiftLeft_eq, Nat.shiftLeft_xor_distrib]
theorem xor_div (a b n : Nat) : (a ^^^ b) / 2 ^ n = a / 2 ^ n ^^^ b / 2 ^ n := by
  rw [← Nat.shiftRight_eq_div_pow, ← Nat.shiftRight_eq_div_pow, ← Nat.shiftRight_eq_div_pow, Nat.shiftRight_xor_distrib]
theorem tags_mem {rows : List Nat} {t : Nat} (h : t ∈ tagsOf rows) : ∃ k, ∃ hk : k < rows.length, t = rows[k] * 2 ^ rows.length ^^^ 2 ^ k := by
  unfold tagsOf at h
  obtain ⟨k, hk, e⟩ := List.mem_mapIdx.mp h
  exact ⟨k, hk, by rw [← e, or_xor hk]⟩
theorem mem_tags {rows : List Nat} {k : Nat} (hk : k < rows.length) : rows[k] * 2 ^ rows.length ^^^ 2 ^ k ∈ tagsOf rows := by
  unfold tagsOf
  exact List.mem_mapIdx.mpr ⟨k, hk, or_xor hk⟩
theorem cn_sp {rows : List Nat} {t : Nat} (h : InSp (tagsOf rows) t) : t / 2 ^ rows.length = Eng.XS rows (t % 2 ^ rows.length) := by
  induction h with
  | zero => rw [Nat.zero_div, Nat.zero_mod, Eng.XS_zero]
  | @add m b _ hb ih =>
    rw [xor_div, Nat.xor_mod_two_pow, Eng.XS_xor, ih]
    congr 1
    obtain ⟨k, hk, rfl⟩ := tags_mem hb
    have h2 : (2 : Nat) ^ k < 2 ^ rows.length := Nat.pow_lt_pow_right (by decide) hk
    rw [xor_div, Nat.xor_mod_two_pow, Nat.mul_mod_left, Nat.zero_xor, Nat.mod_eq_of_lt h2, Nat.div_eq_of_lt h2, Nat.xor_zero, Nat.mul_div_cancel _ (Nat.pow_pos (by decide)), Eng.XS_pow]
    rw [List.getD_eq_getElem?_getD, List.getElem?_eq_getElem hk]; rfl
theorem PB_in {rows : List Nat} {m : Nat} (h : InSp (PB rows) m) : InSp rows m := (Eng.fold_sp rows [] m Eng.bas_nil).mp h
theorem lft_sum {rows : List Nat} {m : Nat} (h : lft rows m / 2 ^ rows.length = 0) : m = Eng.XS rows (lft rows m) ∧ red (PB rows) m = 0 := by
  have hlt : lft rows m < 2 ^ rows.length := (Nat.div_eq_zero_iff_lt (Nat.pow_pos (by decide))).mp h
  have z := cn_sp (PB_in (Eng.sp_red (PB (tagsOf rows)) (m * 2 ^ rows.length) (Eng.bas_PB _).nz))
  have e : m = Eng.XS rows (lft rows m) := by
    have z2 : (m * 2 ^ rows.length ^^^ lft rows m) / 2 ^ rows.length = Eng.XS rows ((m * 2 ^ rows.length ^^^ lft rows m) % 2 ^ rows.length) := z
    rw [xor_div, Nat.xor_mod_two_pow, Nat.mul_mod_left, Nat.zero_xor, Nat.mod_eq_of_lt hlt, h, Nat.xor_zero, Nat.mul_div_cancel _ (Nat.pow_pos (by decide))] at z2
    exact z2
  refine ⟨e, (Eng.PB_sp rows m).mpr ?_⟩
  rw [e]; exact Eng.XS_in rows _
theorem in_tags {rows : List Nat} {m : Nat} (h : InSp rows m) : ∃ T, T < 2 ^ rows.length ∧ InSp (tagsOf rows) (m * 2 ^ rows.length ^^^ T) := by
  induction h with
  | zero => exact ⟨0, Nat.pow_pos (by decide), by rw [Nat.zero_mul]; exact .zero⟩
  | @add m b _ hb ih =>
    obtain ⟨T, h1, h2⟩ := ih
    obtain ⟨k, hk, rfl⟩ := List.mem_iff_getElem.mp hb
    refine ⟨T ^^^ 2 ^ k, Nat.xor_lt_two_pow h1 (Nat.pow_lt_pow_right (by decide) hk), ?_⟩
    have z := h2.xor (.one (mem_tags hk))
    have e : (m ^^^ rows[k]) * 2 ^ rows.length ^^^ (T ^^^ 2 ^ k) = m * 2 ^ rows.length ^^^ T ^^^ (rows[k] * 2 ^ rows.length ^^^ 2 ^ k) := by
      rw [xor_shift]
      generalize m * 2 ^ rows.length = x
      generalize rows[k] * 2 ^ rows.length = y
      generalize (2 : Nat) ^ k = w
      rw [Nat.xor_assoc, Nat.xor_assoc, ← Nat.xor_assoc y T w, Nat.xor_comm y T, Nat.xor_assoc T y w]
    rw [e]; exact z
theorem lft_zero {rows : List Nat} {m : Nat} (h : red (PB rows) m = 0) : lft rows m / 2 ^ rows.length = 0 := by
  obtain ⟨T, h1, h2⟩ := in_tags ((Eng.PB_sp rows m).mp h)
  have h3 : red (PB (tagsOf rows)) (m * 2 ^ rows.length ^^^ T) = 0 := (Eng.PB_sp _ _).mpr h2
  have h4 : lft rows m = red (PB (tagsOf rows)) T := by
    unfold lft
    have e : m * 2 ^ rows.length = (m * 2 ^ rows.length ^^^ T) ^^^ T := by rw [Nat.xor_assoc, Nat.xor_self, Nat.xor_zero]
    rw [e, Eng.red_xor _ _ (Eng.bas_PB _).nz, h3, Nat.zero_xor]
  rw [h4]
  exact Nat.div_eq_of_lt (Nat.lt_of_le_of_lt (red_le _ _) h1)
end Pf

set_option Elab.async false
set_option linter.all false
set_option maxRecDepth 100000
set_option maxHeartbeats 4000000
namespace Pf
open PySem PySem.Spec PyProof.Rows L2 Py
open Eng (red rstep PB Bas ext elim lead ext_len PB_len nats_of InSp)
def Γl : Gm := (((((((Gm0 subT).add "_law_pool" Φ_pool).add "_law_masks" Φ_masks).add "_law_draw" Φ_draw).add "_law_left" Φ_left).add "combination" Φ_comb).add "_law_basis" Φ_basis).add "_law_is_integer" Φ_isint
theorem Γl_1 : Γl.fn "_law_pool" = Φ_pool := by unfold Γl; repeat (first | rw [Gm.add_same] | rw [Gm.add_ne (by decide)])
theorem Γl_2 : Γl.fn "_law_masks" = Φ_masks := by unfold Γl; repeat (first | rw [Gm.add_same] | rw [Gm.add_ne (by decide)])
theorem Γl_3 : Γl.fn "_law_draw" = Φ_draw := by unfold Γl; repeat (first | rw [Gm.add_same] | rw [Gm.add_ne (by decide)])
theorem Γl_4 : Γl.fn "_law_left" = Φ_left := by unfold Γl; repeat (first | rw [Gm.add_same] | rw [Gm.add_ne (by decide)])
theorem Γl_5 : Γl.fn "combination" = Φ_comb := by unfold Γl; repeat (first | rw [Gm.add_same] | rw [Gm.add_ne (by decide)])
theorem Γl_6 : Γl.fn "_law_basis" = Φ_basis := by unfold Γl; repeat (first | rw [Gm.add_same] | rw [Gm.add_ne (by decide)])
theorem Γl_7 : Γl.fn "_law_is_integer" = Φ_isint := by unfold Γl; repeat (first | rw [Gm.add_same] | rw [Gm.add_ne (by decide)])
theorem Γl_s : Γl.sub = subT := rfl
theorem try_ok {Γ : Gm} {A A1 : AS} {body suite : List Sm} {C : Str} {i : Option Nat} (h : exB Γ body A = some (.nx A1)) : exS Γ (.try_ body C i suite) A = some (.nx A1) := by
  unfold exS
  rw [h]
theorem try_ex {Γ : Gm} {A A1 A2 : AS} {body suite : List Sm} {C D : Str} {j : Nat} {v : SV} (h : exB Γ body A = some (.ex D A1)) (hs : Γ.sub D C = some true) (h2 : exB Γ suite ⟨A1.ρ.set j (.exc D), A1.μ⟩ = some (.rt v A2)) : exS Γ (.try_ body C (some j) suite) A = some (.rt v (endX j A2)) := by
  unfold exS
  rw [h]
  dsimp only
  rw [hs]
  dsimp only
  rw [h2]
/-! the mask that is summed up -/
theorem gcL1 {a b c d e : PyData} {x : List PyData} : gcA 0 ⟨[.dat a, .own 0, .dat b, .dat c, .dat d, .dat e, .any, .any, .any, .any, .any, .any], [.lst x]⟩ = ⟨[.dat a, .own 0, .dat b, .dat c, .dat d, .dat e, .any, .any, .any, .any, .any, .any], [.lst x]⟩ := rfl
theorem mul_ni {r v : Nat} (h : v < 2) : binD .Mult (.int (r : Int)) (.int (v : Int)) = some (.int ((r * v : Nat) : Int)) := by
  rw [Int.natCast_mul]
  refine bd_mul ?_
  rw [Int.natAbs_natCast]
  rcases (by omega : v = 0 ∨ v = 1) with rfl | rfl <;> decide
theorem sum_step {Γ : Gm} (hΓ : Γ.fn "_law_draw" = Φ_draw) (hr : Γ.r = 0) {sc wd rw : PyData} {ns : List Int} {p4 : Int} {w r m p1 : Nat} {p2 p3 : Int} (hm : m < 2 ^ w) (hb : r < 2 ^ w) :
    ∃ (m' q1 : Nat) (q2 q3 : Int), m' < 2 ^ w ∧ exB Γ b_law_1 ⟨[.dat sc, .own 0, .dat wd, .dat rw, .dat (ni m), .dat (ni r), .any, .any, .any, .any, .any, .any], [.lst (pl ns p1 p2 p3 p4)]⟩ = some (.nx ⟨[.dat sc, .own 0, .dat wd, .dat rw, .dat (ni m'), .dat (ni r), .any, .any, .any, .any, .any, .any], [.lst (pl ns q1 q2 q3 p4)]⟩) := by
  obtain ⟨v, a1, a2, a3, hv, hd⟩ := draw_run ns p1 p2 p3 p4 2 (by decide) (by decide)
  have hd2 : Φ_draw [.own 0, .dat (.int 2)] [.lst (pl ns p1 p2 p3 p4)] = some (.ret (.dat (ni v)) [.lst (pl ns a1 a2 a3 p4)]) := hd
  have hrv : r * v < 2 ^ w := by
    rcases (by omega : v = 0 ∨ v = 1) with rfl | rfl
    · rw [Nat.mul_zero]; exact Nat.pow_pos (by decide)
    · rw [Nat.mul_one]; exact hb
  refine ⟨m ^^^ r * v, a1, a2, a3, Nat.xor_lt_two_pow hm hrv, ?_⟩
  rw [b_law_1]
  simp only [bindK_ok, bindK_ex, noxK_ok, seqK_ex, thenK_ex, thenK_ok, thenK_ex, seqK_nx, seqK_rt, seqK_bk, seqK_ct, seqK_ex, varK_dat, varK_own, ofK_some, toDK_lst, lstK_lst, bind_ap, nox_ap, then_ap, ret_ap, of_ap, view_ap, toD_dat, toD_own, toDs_nil, toDs_cons, views_nil, views_cons, tru_ap, lstAt_own, view_dat, view_own, viewK_lst, a_dat, a_var, a_bin, a_un, a_cmp, a_chn, a_and, a_or, andK_ap, orK_ap, chnK_ap, a_not, a_ite, iteK_ap, a_tup, a_lst, a_idx, a_cat, a_rep, a_slc, a_isi, a_blen, blenK_int, a_sortr, sortrK_list, a_call, a_bi, biK_some, a_com, comK_ok, es_nil, es_cons, ts_nil, ts_one, i_seq, i_enu, i_rng, b_nil, b_cons, s_asg, put_ap, s_ret, s_ite, ifK_ap, s_for, s_while, s_gc, s_raise, s_pass, s_app, s_aug, augK_dat, s_asgI, asgK_own,
  List.getElem?_cons_zero, List.getElem?_cons_succ, List.set_cons_zero, List.set_cons_succ, wipeV, bd_add, bd_sub, bd_and, bd_or, bd_xor, ud_neg, cd_lt, cd_le, cd_gt, cd_ge, cd_eq, cd_ne, bf_min2, bf_max2, bf_lenL, bf_lenT, bf_int, bf_intB, bf_abs, bl_list, tr_int, tr_bool, tr_list, sq_list, sq_tup, tgSet, setNs, callF, List.length_cons, List.length_nil, List.nil_append, List.cons_append, if_true, if_false, reduceIte, Bool.false_eq_true, Nat.le_refl, Nat.zero_le, List.length_map, List.length_append, List.map_cons, List.map_nil, List.replicate, Nat.reduceAdd, Nat.reduceSub, at_fn, at_r, hΓ, hd2, ref_dat, mul_ni hv, xor_c, hr, gcL1]
theorem sum_loop {Γ : Gm} (hΓ : Γ.fn "_law_draw" = Φ_draw) (hr : Γ.r = 0) {sc wd rw : PyData} {ns : List Int} {p4 : Int} {w : Nat} (rows : List Nat) (hb : ∀ r ∈ rows, r < 2 ^ w) : ∀ (m p1 : Nat) (p2 p3 : Int), m < 2 ^ w →
    ∃ (m' q1 : Nat) (q2 q3 : Int), m' < 2 ^ w ∧ forGo (.nm 5) [5] (exB Γ b_law_1) (rows.map ni) ⟨[.dat sc, .own 0, .dat wd, .dat rw, .dat (ni m), .any, .any, .any, .any, .any, .any, .any], [.lst (pl ns p1 p2 p3 p4)]⟩ = some (.nx ⟨[.dat sc, .own 0, .dat wd, .dat rw, .dat (ni m'), .any, .any, .any, .any, .any, .any, .any], [.lst (pl ns q1 q2 q3 p4)]⟩) := by
  induction rows with
  | nil => exact fun m p1 p2 p3 hm => ⟨m, p1, p2, p3, hm, rfl⟩
  | cons r rows ih =>
    intro m p1 p2 p3 hm
    obtain ⟨m1, a1, a2, a3, k1, k2⟩ := sum_step hΓ hr (sc := sc) (wd := wd) (rw := rw) (ns := ns) (p1 := p1) (p2 := p2) (p3 := p3) (p4 := p4) hm (hb r List.mem_cons_self)
    obtain ⟨m', q1, q2, q3, h1, h2⟩ := ih (fun q hq => hb q (List.mem_cons_of_mem _ hq)) m1 a1 a2 a3 k1
    refine ⟨m', q1, q2, q3, h1, ?_⟩
    rw [List.map_cons, forGo]
    simp only [bindK_ok, bindK_ex, noxK_ok, seqK_ex, thenK_ex, thenK_ok, thenK_ex, seqK_nx, seqK_rt, seqK_bk, seqK_ct, seqK_ex, varK_dat, varK_own, ofK_some, toDK_lst, lstK_lst, bind_ap, nox_ap, then_ap, ret_ap, of_ap, view_ap, toD_dat, toD_own, toDs_nil, toDs_cons, views_nil, views_cons, tru_ap, lstAt_own, view_dat, view_own, viewK_lst, a_dat, a_var, a_bin, a_un, a_cmp, a_chn, a_and, a_or, andK_ap, orK_ap, chnK_ap, a_not, a_ite, iteK_ap, a_tup, a_lst, a_idx, a_cat, a_rep, a_slc, a_isi, a_blen, blenK_int, a_sortr, sortrK_list, a_call, a_bi, biK_some, a_com, comK_ok, es_nil, es_cons, ts_nil, ts_one, i_seq, i_enu, i_rng, b_nil, b_cons, s_asg, put_ap, s_ret, s_ite, ifK_ap, s_for, s_while, s_gc, s_raise, s_pass, s_app, s_aug, augK_dat, s_asgI, asgK_own,
  List.getElem?_cons_zero, List.getElem?_cons_succ, List.set_cons_zero, List.set_cons_succ, wipeV, bd_add, bd_sub, bd_and, bd_or, bd_xor, ud_neg, cd_lt, cd_le, cd_gt, cd_ge, cd_eq, cd_ne, bf_min2, bf_max2, bf_lenL, bf_lenT, bf_int, bf_intB, bf_abs, bl_list, tr_int, tr_bool, tr_list, sq_list, sq_tup, tgSet, setNs, callF, List.length_cons, List.length_nil, List.nil_append, List.cons_append, if_true, if_false, reduceIte, Bool.false_eq_true, Nat.le_refl, Nat.zero_le, List.length_map, List.length_append, List.map_cons, List.map_nil, List.replicate, Nat.reduceAdd, Nat.reduceSub, at_fn, at_r, k2]
    exact h2
/-! the indexes told -/
theorem gcL2 {a b c d e f g h i : PyData} {x : List PyData} : gcA 0 ⟨[.dat a, .own 0, .dat b, .dat c, .dat d, .any, .dat e, .dat f, .dat g, .any, .dat h, .dat i], [.lst x]⟩ = ⟨[.dat a, .own 0, .dat b, .dat c, .dat d, .any, .dat e, .dat f, .dat g, .any, .dat h, .dat i], [.lst x]⟩ := rfl
theorem told_step {Γ : Gm} (hΓ : Γ.fn "_law_is_integer" = Φ_isint) (hr : Γ.r = 0) {sc wd mk pa rc : PyData} {P : List PyData} {rows bs : List Nat} {t i : Nat} (hi : i < bs.length) (hb : bs[i] < rows.length) (ha : ∀ h : 0 < i, bs[i - 1] < bs[i]) :
    exB Γ b_law_2 ⟨[.dat sc, .own 0, .dat wd, .dat (nl rows), .dat mk, .any, .dat pa, .dat rc, .dat (nl bs), .any, .dat (ni t), .dat (ni i)], [.lst P]⟩ = some (.nx ⟨[.dat sc, .own 0, .dat wd, .dat (nl rows), .dat mk, .any, .dat pa, .dat rc, .dat (nl bs), .any, .dat (ni (t ^^^ rows.getD bs[i] 0)), .dat (ni i)], [.lst P]⟩) := by
  have xi : ixD (.list (bs.map ni)) (.int (i : Int)) = some (ni bs[i]) := ix_list (by rw [List.getElem?_map, List.getElem?_eq_getElem hi]; rfl)
  have xr : ixD (.list (rows.map ni)) (.int (bs[i] : Int)) = some (ni (rows.getD bs[i] 0)) := ix_list (by rw [List.getElem?_map, List.getElem?_eq_getElem hb, List.getD_eq_getElem?_getD, List.getElem?_eq_getElem hb]; rfl)
  have d1 : decide ((0 : Int) ≤ (bs[i] : Int)) = true := decide_eq_true (by omega)
  have d2 : decide ((bs[i] : Int) < (rows.length : Int)) = true := decide_eq_true (by omega)
  unfold b_law_2
  by_cases h0 : 0 < i
  · have d3 : decide ((0 : Int) < (i : Int)) = true := decide_eq_true (by omega)
    have d4 : decide ((bs[i] : Int) ≤ (bs[i - 1] : Int)) = false := decide_eq_false (by have := ha h0; omega)
    have xj : ixD (.list (bs.map ni)) (.int ((i : Int) - 1)) = some (ni bs[i - 1]) := by
      rw [show (i : Int) - 1 = ((i - 1 : Nat) : Int) by omega]
      exact ix_list (by rw [List.getElem?_map, List.getElem?_eq_getElem (by omega)]; rfl)
    simp only [bindK_ok, bindK_ex, noxK_ok, seqK_ex, thenK_ex, thenK_ok, thenK_ex, seqK_nx, seqK_rt, seqK_bk, seqK_ct, seqK_ex, varK_dat, varK_own, ofK_some, toDK_lst, lstK_lst, bind_ap, nox_ap, then_ap, ret_ap, of_ap, view_ap, toD_dat, toD_own, toDs_nil, toDs_cons, views_nil, views_cons, tru_ap, lstAt_own, view_dat, view_own, viewK_lst, a_dat, a_var, a_bin, a_un, a_cmp, a_chn, a_and, a_or, andK_ap, orK_ap, chnK_ap, a_not, a_ite, iteK_ap, a_tup, a_lst, a_idx, a_cat, a_rep, a_slc, a_isi, a_blen, blenK_int, a_sortr, sortrK_list, a_call, a_bi, biK_some, a_com, comK_ok, es_nil, es_cons, ts_nil, ts_one, i_seq, i_enu, i_rng, b_nil, b_cons, s_asg, put_ap, s_ret, s_ite, ifK_ap, s_for, s_while, s_gc, s_raise, s_pass, s_app, s_aug, augK_dat, s_asgI, asgK_own,
  List.getElem?_cons_zero, List.getElem?_cons_succ, List.set_cons_zero, List.set_cons_succ, wipeV, bd_add, bd_sub, bd_and, bd_or, bd_xor, ud_neg, cd_lt, cd_le, cd_gt, cd_ge, cd_eq, cd_ne, bf_min2, bf_max2, bf_lenL, bf_lenT, bf_int, bf_intB, bf_abs, bl_list, tr_int, tr_bool, tr_list, sq_list, sq_tup, tgSet, setNs, callF, List.length_cons, List.length_nil, List.nil_append, List.cons_append, if_true, if_false, reduceIte, Bool.false_eq_true, Nat.le_refl, Nat.zero_le, List.length_map, List.length_append, List.map_cons, List.map_nil, List.replicate, Nat.reduceAdd, Nat.reduceSub, at_fn, at_r, hΓ, isint_run, plain_dat, xi, xr, xj, d1, d2, d3, d4, Bool.not_true, Bool.not_false, xor_c, hr, gcL2]
  · have d3 : decide ((0 : Int) < (i : Int)) = false := decide_eq_false (by omega)
    simp only [bindK_ok, bindK_ex, noxK_ok, seqK_ex, thenK_ex, thenK_ok, thenK_ex, seqK_nx, seqK_rt, seqK_bk, seqK_ct, seqK_ex, varK_dat, varK_own, ofK_some, toDK_lst, lstK_lst, bind_ap, nox_ap, then_ap, ret_ap, of_ap, view_ap, toD_dat, toD_own, toDs_nil, toDs_cons, views_nil, views_cons, tru_ap, lstAt_own, view_dat, view_own, viewK_lst, a_dat, a_var, a_bin, a_un, a_cmp, a_chn, a_and, a_or, andK_ap, orK_ap, chnK_ap, a_not, a_ite, iteK_ap, a_tup, a_lst, a_idx, a_cat, a_rep, a_slc, a_isi, a_blen, blenK_int, a_sortr, sortrK_list, a_call, a_bi, biK_some, a_com, comK_ok, es_nil, es_cons, ts_nil, ts_one, i_seq, i_enu, i_rng, b_nil, b_cons, s_asg, put_ap, s_ret, s_ite, ifK_ap, s_for, s_while, s_gc, s_raise, s_pass, s_app, s_aug, augK_dat, s_asgI, asgK_own,
  List.getElem?_cons_zero, List.getElem?_cons_succ, List.set_cons_zero, List.set_cons_succ, wipeV, bd_add, bd_sub, bd_and, bd_or, bd_xor, ud_neg, cd_lt, cd_le, cd_gt, cd_ge, cd_eq, cd_ne, bf_min2, bf_max2, bf_lenL, bf_lenT, bf_int, bf_intB, bf_abs, bl_list, tr_int, tr_bool, tr_list, sq_list, sq_tup, tgSet, setNs, callF, List.length_cons, List.length_nil, List.nil_append, List.cons_append, if_true, if_false, reduceIte, Bool.false_eq_true, Nat.le_refl, Nat.zero_le, List.length_map, List.length_append, List.map_cons, List.map_nil, List.replicate, Nat.reduceAdd, Nat.reduceSub, at_fn, at_r, hΓ, isint_run, plain_dat, xi, xr, d1, d2, d3, Bool.not_true, Bool.not_false, xor_c, hr, gcL2]
theorem told_loop {Γ : Gm} (hΓ : Γ.fn "_law_is_integer" = Φ_isint) (hr : Γ.r = 0) {sc wd mk pa rc : PyData} {P : List PyData} {rows bs : List Nat} (hb : ∀ b ∈ bs, b < rows.length) (ha : ∀ i (h : i < bs.length), ∀ h0 : 0 < i, bs[i - 1] < bs[i]) (j : Nat) : ∀ (i t : Nat), i + j = bs.length →
    forGo (.nm 11) [11] (exB Γ b_law_2) ((List.range' i j).map ni) ⟨[.dat sc, .own 0, .dat wd, .dat (nl rows), .dat mk, .any, .dat pa, .dat rc, .dat (nl bs), .any, .dat (ni t), .any], [.lst P]⟩ = some (.nx ⟨[.dat sc, .own 0, .dat wd, .dat (nl rows), .dat mk, .any, .dat pa, .dat rc, .dat (nl bs), .any, .dat (ni ((bs.drop i).foldl (fun t k => t ^^^ rows.getD k 0) t)), .any], [.lst P]⟩) := by
  induction j with
  | zero =>
    intro i t h
    rw [List.drop_eq_nil_of_le (by omega)]; rfl
  | succ j ih =>
    intro i t h
    have hi : i < bs.length := by omega
    have st := told_step hΓ hr (sc := sc) (wd := wd) (mk := mk) (pa := pa) (rc := rc) (P := P) (rows := rows) (t := t) hi (hb _ (List.getElem_mem hi)) (ha i hi)
    rw [List.range'_succ, List.map_cons, forGo, List.drop_eq_getElem_cons hi, List.foldl_cons]
    simp only [bindK_ok, bindK_ex, noxK_ok, seqK_ex, thenK_ex, thenK_ok, thenK_ex, seqK_nx, seqK_rt, seqK_bk, seqK_ct, seqK_ex, varK_dat, varK_own, ofK_some, toDK_lst, lstK_lst, bind_ap, nox_ap, then_ap, ret_ap, of_ap, view_ap, toD_dat, toD_own, toDs_nil, toDs_cons, views_nil, views_cons, tru_ap, lstAt_own, view_dat, view_own, viewK_lst, a_dat, a_var, a_bin, a_un, a_cmp, a_chn, a_and, a_or, andK_ap, orK_ap, chnK_ap, a_not, a_ite, iteK_ap, a_tup, a_lst, a_idx, a_cat, a_rep, a_slc, a_isi, a_blen, blenK_int, a_sortr, sortrK_list, a_call, a_bi, biK_some, a_com, comK_ok, es_nil, es_cons, ts_nil, ts_one, i_seq, i_enu, i_rng, b_nil, b_cons, s_asg, put_ap, s_ret, s_ite, ifK_ap, s_for, s_while, s_gc, s_raise, s_pass, s_app, s_aug, augK_dat, s_asgI, asgK_own,
  List.getElem?_cons_zero, List.getElem?_cons_succ, List.set_cons_zero, List.set_cons_succ, wipeV, bd_add, bd_sub, bd_and, bd_or, bd_xor, ud_neg, cd_lt, cd_le, cd_gt, cd_ge, cd_eq, cd_ne, bf_min2, bf_max2, bf_lenL, bf_lenT, bf_int, bf_intB, bf_abs, bl_list, tr_int, tr_bool, tr_list, sq_list, sq_tup, tgSet, setNs, callF, List.length_cons, List.length_nil, List.nil_append, List.cons_append, if_true, if_false, reduceIte, Bool.false_eq_true, Nat.le_refl, Nat.zero_le, List.length_map, List.length_append, List.map_cons, List.map_nil, List.replicate, Nat.reduceAdd, Nat.reduceSub, at_fn, at_r, st]
    exact ih (i + 1) _ (by omega)
theorem bits_asc (L n : Nat) (h : n < 2 ^ L) : ∀ i (hi : i < (Eng.bits n).length), ∀ h0 : 0 < i, (Eng.bits n)[i - 1] < (Eng.bits n)[i] := by
  have hp : (Eng.bits n).Pairwise (· < ·) := by
    rw [Eng.bits_filter L n h]
    exact List.Pairwise.filter _ List.pairwise_lt_range
  exact fun i hi h0 => List.pairwise_iff_getElem.mp hp (i - 1) i (by omega) hi (by omega)
theorem rng_ni (n : Nat) : rngD 0 n = (List.range' 0 n).map ni := by
  unfold rngD
  rw [List.range_eq_range']
  exact List.map_congr_left fun k _ => by rw [Int.zero_add]
/-! the law -/
theorem widths (v : Nat) (h : v < 4) : ∃ wd : Nat, 0 < wd ∧ wd ≤ 60 ∧ ixD (.tuple [.int 3, .int 6, .int 12, .int 60]) (.int (v : Int)) = some (ni wd) := by
  rcases (by omega : v = 0 ∨ v = 1 ∨ v = 2 ∨ v = 3) with rfl | rfl | rfl | rfl
  · exact ⟨3, by decide, by decide, ix_tup rfl⟩
  · exact ⟨6, by decide, by decide, ix_tup rfl⟩
  · exact ⟨12, by decide, by decide, ix_tup rfl⟩
  · exact ⟨60, by decide, by decide, ix_tup rfl⟩
theorem ne_nl (B : List Nat) : cmpD .NotEq (nl B) (nl B) = some false := by
  have hs : Eng.Shp 1 (nl B) := Eng.shp_list fun d hd => by
    obtain ⟨b, _, rfl⟩ := List.mem_map.mp hd
    exact Eng.shp_int 0 _
  have h1 := hs.shaped (by decide)
  show (eqD (nl B) (nl B)).map (! ·) = some false
  unfold eqD
  dsimp only
  rw [if_pos ⟨h1, h1⟩, SeqAt.eqv_refl _ hs.1]; rfl
theorem kl : kitB "list" "list" = some true := by decide
theorem ty_list {l : List PyData} : tyD (.list l) = some "list" := rfl
theorem exB_cat {Γ : Gm} {A A1 : AS} {u v : List Sm} (h : exB Γ u A = some (.nx A1)) : exB Γ (u ++ v) A = exB Γ v A1 := by
  induction u generalizing A with
  | nil => cases h; rfl
  | cons s u ih =>
    rw [List.cons_append, b_cons]
    rw [b_cons] at h
    cases hs : exS Γ s A with
    | none => rw [hs] at h; cases h
    | some o =>
      rw [hs] at h
      cases o with
      | nx A2 => exact ih h
      | _ => cases h
theorem ln4 {n : Nat} (h : n ≤ 4) : n ≤ 1000000 := by omega
def Φ_law : List SV → List ON → Option RO := runF Γl b_law 1 12
theorem law_run (ns : List Int) (hl : ns.length ≤ 63) : ∃ μ, Φ_law [.dat (.list (ns.map .int))] [] = some (.ret (.dat (.bool true)) μ) := by
  obtain ⟨p4, hpool⟩ := pool_run ns hl
  obtain ⟨v, a1, a2, a3, hv, hd1⟩ := draw_run ns 0 0 0 p4 4 (by decide) (by decide)
  have hd1' : Φ_draw [.own 0, .dat (.int 4)] [.lst (pl ns 0 0 0 p4)] = some (.ret (.dat (ni v)) [.lst (pl ns a1 a2 a3 p4)]) := hd1
  obtain ⟨wd, w0, w60, hix⟩ := widths v hv
  obtain ⟨rows, b1, b2, b3, r1, r2, hms⟩ := masks_run ns a1 a2 a3 p4 10 wd w0 (by omega) (by decide)
  have hms' : Φ_masks [.own 0, .dat (.int 10), .dat (ni wd)] [.lst (pl ns a1 a2 a3 p4)] = some (.ret (.own 1) [.lst (pl ns b1 b2 b3 p4), .lst (rows.map ni)]) := hms
  obtain ⟨m0, c1, c2, c3, hm0, hd2⟩ := draw_run ns b1 b2 b3 p4 (2 ^ wd) (Nat.pow_pos (by decide)) (Nat.pow_lt_pow_right (by decide) (by omega))
  obtain ⟨u, e1, e2, e3, hu, hd3⟩ := draw_run ns c1 c2 c3 p4 3 (by decide) (by decide)
  have hd3' : Φ_draw [.own 0, .dat (.int 3)] [.lst (pl ns c1 c2 c3 p4)] = some (.ret (.dat (ni u)) [.lst (pl ns e1 e2 e3 p4)]) := hd3
  have hrow : ∀ r ∈ rows, r < 2 ^ 10000 := fun r hr => Nat.lt_of_lt_of_le (r2 r hr) (Nat.pow_le_pow_right (by decide) (by omega))
  have htup := fun A : AS => (if_pos (ln4 (n := [PyData.int 3, .int 6, .int 12, .int 60].length) (by decide)) : (if [PyData.int 3, .int 6, .int 12, .int 60].length ≤ 1000000 then some (Out.ok (SV.dat (.tuple [.int 3, .int 6, .int 12, .int 60])) A) else none) = _)
  -- what comes behind the mask
  have rest : ∀ (m q1 : Nat) (q2 q3 : Int), m < 2 ^ wd → ∃ A, exB (Γl.at 0) (b_law.drop 5) ⟨[.dat (.list (ns.map .int)), .own 0, .dat (ni wd), .dat (nl rows), .dat (ni m), .any, .any, .any, .any, .any, .any, .any], [.lst (pl ns q1 q2 q3 p4)]⟩ = some (.rt (.dat (.bool true)) A) := by
    intro m q1 q2 q3 hm
    have hm2 : m < 2 ^ 10000 := Nat.lt_of_lt_of_le hm (Nat.pow_le_pow_right (by decide) (by omega))
    obtain ⟨C, ro, hC, hro, hpl⟩ := basis_run rows (by omega) fun r hr => Nat.lt_of_lt_of_le (hrow r hr) (Nat.pow_le_pow_right (by decide) (by decide))
    have hnz : ∀ b ∈ C, b ≠ 0 := ((Eng.bas_PB rows).perm hC).nz
    have hleft := left_run C m hnz
    have hred : red C m = red (PB rows) m := Eng.red_perm (Eng.bas_PB rows) hC
    have hcomb := comb_run rows m (by omega) hrow hm2
    have hal := fun A : AS => alloc_dat (A := A) (ds := rows.map ni) (by simp; omega)
    by_cases hz : lft rows m / 2 ^ rows.length = 0
    · rw [if_pos hz] at hcomb
      obtain ⟨s1, s2⟩ := lft_sum hz
      have d1 : decide (((red C m : Nat) : Int) = 0) = true := by rw [hred, s2]; rfl
      have hlt : lft rows m < 2 ^ rows.length := (Nat.div_eq_zero_iff_lt (Nat.pow_pos (by decide))).mp hz
      have hbl := lft_bits rows m (by omega) hz
      have htry : ∀ suite, exS (Γl.at 0) (.try_ [.asg 8 (.call "combination" 0 false (.cons (.var 6) (.cons (.var 4) .nil)))] "NoSolution" (some 9) suite) ⟨[.dat (.list (ns.map .int)), .own 0, .dat (ni wd), .dat (nl rows), .dat (ni m), .any, .dat (nl rows), .dat (.bool true), .any, .any, .any, .any], [.lst (pl ns q1 q2 q3 p4)]⟩ = some (.nx ⟨[.dat (.list (ns.map .int)), .own 0, .dat (ni wd), .dat (nl rows), .dat (ni m), .any, .dat (nl rows), .dat (.bool true), .dat (nl (Eng.bits (lft rows m))), .any, .any, .any], [.lst (pl ns q1 q2 q3 p4)]⟩) := fun suite => try_ok (by simp only [bindK_ok, bindK_ex, noxK_ok, seqK_ex, thenK_ex, thenK_ok, thenK_ex, seqK_nx, seqK_rt, seqK_bk, seqK_ct, seqK_ex, varK_dat, varK_own, ofK_some, toDK_lst, lstK_lst, bind_ap, nox_ap, then_ap, ret_ap, of_ap, view_ap, toD_dat, toD_own, toDs_nil, toDs_cons, views_nil, views_cons, tru_ap, lstAt_own, view_dat, view_own, viewK_lst, a_dat, a_var, a_bin, a_un, a_cmp, a_chn, a_and, a_or, andK_ap, orK_ap, chnK_ap, a_not, a_ite, iteK_ap, a_tup, a_lst, a_idx, a_cat, a_rep, a_slc, a_isi, a_blen, blenK_int, a_sortr, sortrK_list, a_call, a_bi, biK_some, a_com, comK_ok, es_nil, es_cons, ts_nil, ts_one, i_seq, i_enu, i_rng, b_nil, b_cons, s_asg, put_ap, s_ret, s_ite, ifK_ap, s_for, s_while, s_gc, s_raise, s_pass, s_app, s_aug, augK_dat, s_asgI, asgK_own,
  List.getElem?_cons_zero, List.getElem?_cons_succ, List.set_cons_zero, List.set_cons_succ, wipeV, bd_add, bd_sub, bd_and, bd_or, bd_xor, ud_neg, cd_lt, cd_le, cd_gt, cd_ge, cd_eq, cd_ne, bf_min2, bf_max2, bf_lenL, bf_lenT, bf_int, bf_intB, bf_abs, bl_list, tr_int, tr_bool, tr_list, sq_list, sq_tup, tgSet, setNs, callF, List.length_cons, List.length_nil, List.nil_append, List.cons_append, if_true, if_false, reduceIte, Bool.false_eq_true, Nat.le_refl, Nat.zero_le, List.length_map, List.length_append, List.map_cons, List.map_nil, List.replicate, Nat.reduceAdd, Nat.reduceSub, at_fn, at_r, Γl_5, hcomb, plain_frz])
      have hbits : ∀ b ∈ Eng.bits (lft rows m), b < rows.length := fun b hb => by
        rw [Eng.bits_filter rows.length _ hlt] at hb
        exact List.mem_range.mp (List.mem_filter.mp hb).1
      have hloop := told_loop (Γ := Γl.at 0) Γl_7 rfl (sc := .list (ns.map .int)) (wd := ni wd) (mk := ni m) (pa := nl rows) (rc := .bool true) (P := pl ns q1 q2 q3 p4) (rows := rows) hbits (bits_asc rows.length _ hlt) (Eng.bits (lft rows m)).length 0 0 (by omega)
      rw [List.drop_zero, Eng.XS_bits rows _ 0 hlt, Nat.zero_xor, ← s1, ← rng_ni] at hloop
      rw [show ni 0 = PyData.int 0 from rfl] at hloop
      have d2 : decide ((m : Int) = (m : Int)) = true := decide_eq_true rfl
      refine ⟨⟨[.dat (.list (ns.map .int)), .own 0, .dat (ni wd), .dat (nl rows), .dat (ni m), .any, .dat (nl rows), .dat (.bool true), .dat (nl (Eng.bits (lft rows m))), .any, .dat (ni m), .any], [.lst (pl ns q1 q2 q3 p4)]⟩, ?_⟩
      unfold b_law
      simp only [bindK_ok, bindK_ex, noxK_ok, seqK_ex, thenK_ex, thenK_ok, thenK_ex, seqK_nx, seqK_rt, seqK_bk, seqK_ct, seqK_ex, varK_dat, varK_own, ofK_some, toDK_lst, lstK_lst, bind_ap, nox_ap, then_ap, ret_ap, of_ap, view_ap, toD_dat, toD_own, toDs_nil, toDs_cons, views_nil, views_cons, tru_ap, lstAt_own, view_dat, view_own, viewK_lst, a_dat, a_var, a_bin, a_un, a_cmp, a_chn, a_and, a_or, andK_ap, orK_ap, chnK_ap, a_not, a_ite, iteK_ap, a_tup, a_lst, a_idx, a_cat, a_rep, a_slc, a_isi, a_blen, blenK_int, a_sortr, sortrK_list, a_call, a_bi, biK_some, a_com, comK_ok, es_nil, es_cons, ts_nil, ts_one, i_seq, i_enu, i_rng, b_nil, b_cons, s_asg, put_ap, s_ret, s_ite, ifK_ap, s_for, s_while, s_gc, s_raise, s_pass, s_app, s_aug, augK_dat, s_asgI, asgK_own,
  List.getElem?_cons_zero, List.getElem?_cons_succ, List.set_cons_zero, List.set_cons_succ, wipeV, bd_add, bd_sub, bd_and, bd_or, bd_xor, ud_neg, cd_lt, cd_le, cd_gt, cd_ge, cd_eq, cd_ne, bf_min2, bf_max2, bf_lenL, bf_lenT, bf_int, bf_intB, bf_abs, bl_list, tr_int, tr_bool, tr_list, sq_list, sq_tup, tgSet, setNs, callF, List.length_cons, List.length_nil, List.nil_append, List.cons_append, if_true, if_false, reduceIte, Bool.false_eq_true, Nat.le_refl, Nat.zero_le, List.length_map, List.length_append, List.map_cons, List.map_nil, List.replicate, Nat.reduceAdd, Nat.reduceSub, at_fn, at_r, List.drop_succ_cons, List.drop_zero, bl_list, hal, Γl_4, Γl_6, hro, hpl, hleft, plain_dat, d1, htry, Bool.not_true, ty_list, kl, ne_nl, rngK_int (n := ((Eng.bits (lft rows m)).length : Int)) (by omega), Int.toNat_natCast, hloop, decide_true]
    · rw [if_neg hz] at hcomb
      have h0 : red (PB rows) m ≠ 0 := fun z => hz (lft_zero z)
      have d1 : decide (((red C m : Nat) : Int) = 0) = false := decide_eq_false (by rw [hred]; omega)
      have hx1 : ∀ A : AS, A.ρ[9]? = some (.exc "NoSolution") → ev (Γl.at 0) (.isx 9 "BastionError") A = some (.ok (.dat (.bool true)) A) := fun A h => a_isx h (by decide)
      have hx2 : ∀ A : AS, A.ρ[9]? = some (.exc "NoSolution") → ev (Γl.at 0) (.isx 9 "InvalidText") A = some (.ok (.dat (.bool false)) A) := fun A h => a_isx h (by decide)
      have htry : exS (Γl.at 0) (.try_ [.asg 8 (.call "combination" 0 false (.cons (.var 6) (.cons (.var 4) .nil)))] "NoSolution" (some 9) [.ret (.and (.not (.var 7)) (.and (.isx 9 "BastionError") (.not (.isx 9 "InvalidText"))))]) ⟨[.dat (.list (ns.map .int)), .own 0, .dat (ni wd), .dat (nl rows), .dat (ni m), .any, .dat (nl rows), .dat (.bool false), .any, .any, .any, .any], [.lst (pl ns q1 q2 q3 p4)]⟩ = some (.rt (.dat (.bool true)) (endX 9 ⟨[.dat (.list (ns.map .int)), .own 0, .dat (ni wd), .dat (nl rows), .dat (ni m), .any, .dat (nl rows), .dat (.bool false), .any, .exc "NoSolution", .any, .any], [.lst (pl ns q1 q2 q3 p4)]⟩)) :=
        try_ex (D := "NoSolution") (A1 := ⟨[.dat (.list (ns.map .int)), .own 0, .dat (ni wd), .dat (nl rows), .dat (ni m), .any, .dat (nl rows), .dat (.bool false), .any, .any, .any, .any], [.lst (pl ns q1 q2 q3 p4)]⟩) (by simp only [bindK_ok, bindK_ex, noxK_ok, seqK_ex, thenK_ex, thenK_ok, thenK_ex, seqK_nx, seqK_rt, seqK_bk, seqK_ct, seqK_ex, varK_dat, varK_own, ofK_some, toDK_lst, lstK_lst, bind_ap, nox_ap, then_ap, ret_ap, of_ap, view_ap, toD_dat, toD_own, toDs_nil, toDs_cons, views_nil, views_cons, tru_ap, lstAt_own, view_dat, view_own, viewK_lst, a_dat, a_var, a_bin, a_un, a_cmp, a_chn, a_and, a_or, andK_ap, orK_ap, chnK_ap, a_not, a_ite, iteK_ap, a_tup, a_lst, a_idx, a_cat, a_rep, a_slc, a_isi, a_blen, blenK_int, a_sortr, sortrK_list, a_call, a_bi, biK_some, a_com, comK_ok, es_nil, es_cons, ts_nil, ts_one, i_seq, i_enu, i_rng, b_nil, b_cons, s_asg, put_ap, s_ret, s_ite, ifK_ap, s_for, s_while, s_gc, s_raise, s_pass, s_app, s_aug, augK_dat, s_asgI, asgK_own,
  List.getElem?_cons_zero, List.getElem?_cons_succ, List.set_cons_zero, List.set_cons_succ, wipeV, bd_add, bd_sub, bd_and, bd_or, bd_xor, ud_neg, cd_lt, cd_le, cd_gt, cd_ge, cd_eq, cd_ne, bf_min2, bf_max2, bf_lenL, bf_lenT, bf_int, bf_intB, bf_abs, bl_list, tr_int, tr_bool, tr_list, sq_list, sq_tup, tgSet, setNs, callF, List.length_cons, List.length_nil, List.nil_append, List.cons_append, if_true, if_false, reduceIte, Bool.false_eq_true, Nat.le_refl, Nat.zero_le, List.length_map, List.length_append, List.map_cons, List.map_nil, List.replicate, Nat.reduceAdd, Nat.reduceSub, at_fn, at_r, Γl_5, hcomb, plain_ex]) (by decide) (by simp only [bindK_ok, bindK_ex, noxK_ok, seqK_ex, thenK_ex, thenK_ok, thenK_ex, seqK_nx, seqK_rt, seqK_bk, seqK_ct, seqK_ex, varK_dat, varK_own, ofK_some, toDK_lst, lstK_lst, bind_ap, nox_ap, then_ap, ret_ap, of_ap, view_ap, toD_dat, toD_own, toDs_nil, toDs_cons, views_nil, views_cons, tru_ap, lstAt_own, view_dat, view_own, viewK_lst, a_dat, a_var, a_bin, a_un, a_cmp, a_chn, a_and, a_or, andK_ap, orK_ap, chnK_ap, a_not, a_ite, iteK_ap, a_tup, a_lst, a_idx, a_cat, a_rep, a_slc, a_isi, a_blen, blenK_int, a_sortr, sortrK_list, a_call, a_bi, biK_some, a_com, comK_ok, es_nil, es_cons, ts_nil, ts_one, i_seq, i_enu, i_rng, b_nil, b_cons, s_asg, put_ap, s_ret, s_ite, ifK_ap, s_for, s_while, s_gc, s_raise, s_pass, s_app, s_aug, augK_dat, s_asgI, asgK_own,
  List.getElem?_cons_zero, List.getElem?_cons_succ, List.set_cons_zero, List.set_cons_succ, wipeV, bd_add, bd_sub, bd_and, bd_or, bd_xor, ud_neg, cd_lt, cd_le, cd_gt, cd_ge, cd_eq, cd_ne, bf_min2, bf_max2, bf_lenL, bf_lenT, bf_int, bf_intB, bf_abs, bl_list, tr_int, tr_bool, tr_list, sq_list, sq_tup, tgSet, setNs, callF, List.length_cons, List.length_nil, List.nil_append, List.cons_append, if_true, if_false, reduceIte, Bool.false_eq_true, Nat.le_refl, Nat.zero_le, List.length_map, List.length_append, List.map_cons, List.map_nil, List.replicate, Nat.reduceAdd, Nat.reduceSub, at_fn, at_r, hx1, hx2, Bool.not_true, Bool.not_false])
      refine ⟨endX 9 ⟨[.dat (.list (ns.map .int)), .own 0, .dat (ni wd), .dat (nl rows), .dat (ni m), .any, .dat (nl rows), .dat (.bool false), .any, .exc "NoSolution", .any, .any], [.lst (pl ns q1 q2 q3 p4)]⟩, ?_⟩
      unfold b_law
      simp only [bindK_ok, bindK_ex, noxK_ok, seqK_ex, thenK_ex, thenK_ok, thenK_ex, seqK_nx, seqK_rt, seqK_bk, seqK_ct, seqK_ex, varK_dat, varK_own, ofK_some, toDK_lst, lstK_lst, bind_ap, nox_ap, then_ap, ret_ap, of_ap, view_ap, toD_dat, toD_own, toDs_nil, toDs_cons, views_nil, views_cons, tru_ap, lstAt_own, view_dat, view_own, viewK_lst, a_dat, a_var, a_bin, a_un, a_cmp, a_chn, a_and, a_or, andK_ap, orK_ap, chnK_ap, a_not, a_ite, iteK_ap, a_tup, a_lst, a_idx, a_cat, a_rep, a_slc, a_isi, a_blen, blenK_int, a_sortr, sortrK_list, a_call, a_bi, biK_some, a_com, comK_ok, es_nil, es_cons, ts_nil, ts_one, i_seq, i_enu, i_rng, b_nil, b_cons, s_asg, put_ap, s_ret, s_ite, ifK_ap, s_for, s_while, s_gc, s_raise, s_pass, s_app, s_aug, augK_dat, s_asgI, asgK_own,
  List.getElem?_cons_zero, List.getElem?_cons_succ, List.set_cons_zero, List.set_cons_succ, wipeV, bd_add, bd_sub, bd_and, bd_or, bd_xor, ud_neg, cd_lt, cd_le, cd_gt, cd_ge, cd_eq, cd_ne, bf_min2, bf_max2, bf_lenL, bf_lenT, bf_int, bf_intB, bf_abs, bl_list, tr_int, tr_bool, tr_list, sq_list, sq_tup, tgSet, setNs, callF, List.length_cons, List.length_nil, List.nil_append, List.cons_append, if_true, if_false, reduceIte, Bool.false_eq_true, Nat.le_refl, Nat.zero_le, List.length_map, List.length_append, List.map_cons, List.map_nil, List.replicate, Nat.reduceAdd, Nat.reduceSub, at_fn, at_r, List.drop_succ_cons, List.drop_zero, bl_list, hal, Γl_4, Γl_6, hro, hpl, hleft, plain_dat, d1, htry]
  have fin : ∀ (m q1 : Nat) (q2 q3 : Int), m < 2 ^ wd → exB (Γl.at 0) (b_law.take 5) ⟨[.dat (.list (ns.map .int)), .any, .any, .any, .any, .any, .any, .any, .any, .any, .any, .any], []⟩ = some (.nx ⟨[.dat (.list (ns.map .int)), .own 0, .dat (ni wd), .dat (nl rows), .dat (ni m), .any, .any, .any, .any, .any, .any, .any], [.lst (pl ns q1 q2 q3 p4)]⟩) → ∃ μ, Φ_law [.dat (.list (ns.map .int))] [] = some (.ret (.dat (.bool true)) μ) := by
    intro m q1 q2 q3 hm h
    obtain ⟨A, hA⟩ := rest m q1 q2 q3 hm
    refine ⟨_, run_ret (sv := .dat (.bool true)) (A := A) rfl ?_ gc_dat⟩
    have e := exB_cat (v := b_law.drop 5) h
    rw [List.take_append_drop, hA] at e
    exact e
  have hsh := shl1_c (n := wd) (by omega)
  have h4 : (4 ≤ 1000000) = True := eq_true (by decide)
  by_cases h0 : 0 < u
  · have hd : decide ((0 : Int) < (u : Int)) = true := decide_eq_true (by omega)
    obtain ⟨m', q1, q2, q3, k1, k2⟩ := sum_loop (Γ := Γl.at 0) Γl_3 rfl (sc := .list (ns.map .int)) (wd := ni wd) (rw := nl rows) (ns := ns) (p4 := p4) (w := wd) rows r2 0 e1 e2 e3 (Nat.pow_pos (by decide))
    rw [show ni 0 = PyData.int 0 from rfl] at k2
    refine fin m' q1 q2 q3 k1 ?_
    unfold b_law
    simp only [bindK_ok, bindK_ex, noxK_ok, seqK_ex, thenK_ex, thenK_ok, thenK_ex, seqK_nx, seqK_rt, seqK_bk, seqK_ct, seqK_ex, varK_dat, varK_own, ofK_some, toDK_lst, lstK_lst, bind_ap, nox_ap, then_ap, ret_ap, of_ap, view_ap, toD_dat, toD_own, toDs_nil, toDs_cons, views_nil, views_cons, tru_ap, lstAt_own, view_dat, view_own, viewK_lst, a_dat, a_var, a_bin, a_un, a_cmp, a_chn, a_and, a_or, andK_ap, orK_ap, chnK_ap, a_not, a_ite, iteK_ap, a_tup, a_lst, a_idx, a_cat, a_rep, a_slc, a_isi, a_blen, blenK_int, a_sortr, sortrK_list, a_call, a_bi, biK_some, a_com, comK_ok, es_nil, es_cons, ts_nil, ts_one, i_seq, i_enu, i_rng, b_nil, b_cons, s_asg, put_ap, s_ret, s_ite, ifK_ap, s_for, s_while, s_gc, s_raise, s_pass, s_app, s_aug, augK_dat, s_asgI, asgK_own,
  List.getElem?_cons_zero, List.getElem?_cons_succ, List.set_cons_zero, List.set_cons_succ, wipeV, bd_add, bd_sub, bd_and, bd_or, bd_xor, ud_neg, cd_lt, cd_le, cd_gt, cd_ge, cd_eq, cd_ne, bf_min2, bf_max2, bf_lenL, bf_lenT, bf_int, bf_intB, bf_abs, bl_list, tr_int, tr_bool, tr_list, sq_list, sq_tup, tgSet, setNs, callF, List.length_cons, List.length_nil, List.nil_append, List.cons_append, if_true, if_false, reduceIte, Bool.false_eq_true, Nat.le_refl, Nat.zero_le, List.length_map, List.length_append, List.map_cons, List.map_nil, List.replicate, Nat.reduceAdd, Nat.reduceSub, at_fn, at_r, List.take_succ_cons, List.take_zero, Γl_1, hpool, plain_own, Γl_3, hd1', ref_dat, hix, Γl_2, hms', ref_frz, hsh, hd2, hd3', hd, h4, k2]
  · have hd : decide ((0 : Int) < (u : Int)) = false := decide_eq_false (by omega)
    refine fin m0 e1 e2 e3 hm0 ?_
    unfold b_law
    simp only [bindK_ok, bindK_ex, noxK_ok, seqK_ex, thenK_ex, thenK_ok, thenK_ex, seqK_nx, seqK_rt, seqK_bk, seqK_ct, seqK_ex, varK_dat, varK_own, ofK_some, toDK_lst, lstK_lst, bind_ap, nox_ap, then_ap, ret_ap, of_ap, view_ap, toD_dat, toD_own, toDs_nil, toDs_cons, views_nil, views_cons, tru_ap, lstAt_own, view_dat, view_own, viewK_lst, a_dat, a_var, a_bin, a_un, a_cmp, a_chn, a_and, a_or, andK_ap, orK_ap, chnK_ap, a_not, a_ite, iteK_ap, a_tup, a_lst, a_idx, a_cat, a_rep, a_slc, a_isi, a_blen, blenK_int, a_sortr, sortrK_list, a_call, a_bi, biK_some, a_com, comK_ok, es_nil, es_cons, ts_nil, ts_one, i_seq, i_enu, i_rng, b_nil, b_cons, s_asg, put_ap, s_ret, s_ite, ifK_ap, s_for, s_while, s_gc, s_raise, s_pass, s_app, s_aug, augK_dat, s_asgI, asgK_own,
  List.getElem?_cons_zero, List.getElem?_cons_succ, List.set_cons_zero, List.set_cons_succ, wipeV, bd_add, bd_sub, bd_and, bd_or, bd_xor, ud_neg, cd_lt, cd_le, cd_gt, cd_ge, cd_eq, cd_ne, bf_min2, bf_max2, bf_lenL, bf_lenT, bf_int, bf_intB, bf_abs, bl_list, tr_int, tr_bool, tr_list, sq_list, sq_tup, tgSet, setNs, callF, List.length_cons, List.length_nil, List.nil_append, List.cons_append, if_true, if_false, reduceIte, Bool.false_eq_true, Nat.le_refl, Nat.zero_le, List.length_map, List.length_append, List.map_cons, List.map_nil, List.replicate, Nat.reduceAdd, Nat.reduceSub, at_fn, at_r, List.take_succ_cons, List.take_zero, Γl_1, hpool, plain_own, Γl_3, hd1', ref_dat, hix, Γl_2, hms', ref_frz, hsh, hd2, hd3', hd, h4]
end Pf

set_option Elab.async false
set_option linter.all false
set_option maxRecDepth 100000
set_option maxHeartbeats 4000000
namespace Pf
open PySem PySem.Spec PyProof.Rows L2 Py
open Evl (Ex)
/-! ### what the top has written; the law's own head -/
theorem all_mk {l : PySem.W.OpenLaw} {w : World} {K : PySem.W.Frag} {h : Heap} {mg : Str → Option Value} {fa f0 f1 f2 f3 f4 f5 f6 f7 f8 f9 f10 f11 f12 f13 x0 x1 x2 : Addr} (X : K.In h) (G : h.Ns mainGlobals mg) (hfa : mg "law" = some (.ref fa))
    {od0 an0 od1 an1 od2 an2 od3 an3 od4 an4 od5 an5 od6 an6 od7 an7 od8 an8 od9 an9 od10 an10 od11 an11 od12 an12 od13 an13 : Option Addr} {sl0 sl1 sl2 sl3 sl4 sl5 sl6 sl7 sl8 sl9 sl10 sl11 sl12 sl13 : Array (Option Value)} {oc0 kV0 dc0 pm0 cd0 ct0 oc1 kV1 dc1 pm1 cd1 ct1 oc2 kV2 dc2 pm2 cd2 ct2 oc3 kV3 dc3 pm3 cd3 ct3 oc4 kV4 dc4 pm4 cd4 ct4 oc5 kV5 dc5 pm5 cd5 ct5 oc6 kV6 dc6 pm6 cd6 ct6 oc7 kV7 dc7 pm7 cd7 ct7 oc8 kV8 dc8 pm8 cd8 ct8 oc9 kV9 dc9 pm9 cd9 ct9 oc10 kV10 dc10 pm10 cd10 ct10 oc11 kV11 dc11 pm11 cd11 ct11 oc12 kV12 dc12 pm12 cd12 ct12 oc13 kV13 dc13 pm13 cd13 ct13 : Value}
    (a0 : PySem.W.nsIn K mainGlobals "reduced" = some (some (.ref f0))) (l0 : K.lookup f0 = some ⟨oc0, od0, .func (PySem.W.fnOf "reduced" "reduced" (defArgs s_reduced) (defBody s_reduced) (defScope s_reduced) .none kV0 dc0 pm0 an0 cd0 ct0), sl0⟩) (c0 : PySem.W.codeIn K cd0 "reduced" = true) (k0 : PySem.W.keepIn K (.ref f0) = true)
    (a1 : PySem.W.nsIn K mainGlobals "tagged" = some (some (.ref f1))) (l1 : K.lookup f1 = some ⟨oc1, od1, .func (PySem.W.fnOf "tagged" "tagged" (defArgs s_tagged) (defBody s_tagged) (defScope s_tagged) .none kV1 dc1 pm1 an1 cd1 ct1), sl1⟩) (c1 : PySem.W.codeIn K cd1 "tagged" = true) (k1 : PySem.W.keepIn K (.ref f1) = true)
    (a2 : PySem.W.nsIn K mainGlobals "members" = some (some (.ref f2))) (l2 : K.lookup f2 = some ⟨oc2, od2, .func (PySem.W.fnOf "members" "members" (defArgs s_members) (defBody s_members) (defScope s_members) .none kV2 dc2 pm2 an2 cd2 ct2), sl2⟩) (c2 : PySem.W.codeIn K cd2 "members" = true) (k2 : PySem.W.keepIn K (.ref f2) = true)
    (a3 : PySem.W.nsIn K mainGlobals "echelon" = some (some (.ref f3))) (l3 : K.lookup f3 = some ⟨oc3, od3, .func (PySem.W.fnOf "echelon" "echelon" (defArgs s_echelon) (defBody s_echelon) (defScope s_echelon) .none kV3 dc3 pm3 an3 cd3 ct3), sl3⟩) (c3 : PySem.W.codeIn K cd3 "echelon" = true) (k3 : PySem.W.keepIn K (.ref f3) = true)
    (a4 : PySem.W.nsIn K mainGlobals "least_combination" = some (some (.ref f4))) (l4 : K.lookup f4 = some ⟨oc4, od4, .func (PySem.W.fnOf "least_combination" "least_combination" (defArgs s_least_combination) (defBody s_least_combination) (defScope s_least_combination) .none kV4 dc4 pm4 an4 cd4 ct4), sl4⟩) (c4 : PySem.W.codeIn K cd4 "least_combination" = true) (k4 : PySem.W.keepIn K (.ref f4) = true)
    (a5 : PySem.W.nsIn K mainGlobals "combination" = some (some (.ref f5))) (l5 : K.lookup f5 = some ⟨oc5, od5, .func (PySem.W.fnOf "combination" "combination" (defArgs s_combination) (defBody s_combination) (defScope s_combination) .none kV5 dc5 pm5 an5 cd5 ct5), sl5⟩) (c5 : PySem.W.codeIn K cd5 "combination" = true) (k5 : PySem.W.keepIn K (.ref f5) = true)
    (a6 : PySem.W.nsIn K mainGlobals "_law_is_integer" = some (some (.ref f6))) (l6 : K.lookup f6 = some ⟨oc6, od6, .func (PySem.W.fnOf "_law_is_integer" "_law_is_integer" (defArgs s__law_is_integer) (defBody s__law_is_integer) (defScope s__law_is_integer) .none kV6 dc6 pm6 an6 cd6 ct6), sl6⟩) (c6 : PySem.W.codeIn K cd6 "_law_is_integer" = true) (k6 : PySem.W.keepIn K (.ref f6) = true)
    (a7 : PySem.W.nsIn K mainGlobals "_law_pool" = some (some (.ref f7))) (l7 : K.lookup f7 = some ⟨oc7, od7, .func (PySem.W.fnOf "_law_pool" "_law_pool" (defArgs s__law_pool) (defBody s__law_pool) (defScope s__law_pool) .none kV7 dc7 pm7 an7 cd7 ct7), sl7⟩) (c7 : PySem.W.codeIn K cd7 "_law_pool" = true) (k7 : PySem.W.keepIn K (.ref f7) = true)
    (a8 : PySem.W.nsIn K mainGlobals "_law_spread" = some (some (.ref f8))) (l8 : K.lookup f8 = some ⟨oc8, od8, .func (PySem.W.fnOf "_law_spread" "_law_spread" (defArgs s__law_spread) (defBody s__law_spread) (defScope s__law_spread) .none kV8 dc8 pm8 an8 cd8 ct8), sl8⟩) (c8 : PySem.W.codeIn K cd8 "_law_spread" = true) (k8 : PySem.W.keepIn K (.ref f8) = true)
    (a9 : PySem.W.nsIn K mainGlobals "_law_draw" = some (some (.ref f9))) (l9 : K.lookup f9 = some ⟨oc9, od9, .func (PySem.W.fnOf "_law_draw" "_law_draw" (defArgs s__law_draw) (defBody s__law_draw) (defScope s__law_draw) .none kV9 dc9 pm9 an9 cd9 ct9), sl9⟩) (c9 : PySem.W.codeIn K cd9 "_law_draw" = true) (k9 : PySem.W.keepIn K (.ref f9) = true)
    (a10 : PySem.W.nsIn K mainGlobals "_law_basis" = some (some (.ref f10))) (l10 : K.lookup f10 = some ⟨oc10, od10, .func (PySem.W.fnOf "_law_basis" "_law_basis" (defArgs s__law_basis) (defBody s__law_basis) (defScope s__law_basis) .none kV10 dc10 pm10 an10 cd10 ct10), sl10⟩) (c10 : PySem.W.codeIn K cd10 "_law_basis" = true) (k10 : PySem.W.keepIn K (.ref f10) = true)
    (a11 : PySem.W.nsIn K mainGlobals "_law_left" = some (some (.ref f11))) (l11 : K.lookup f11 = some ⟨oc11, od11, .func (PySem.W.fnOf "_law_left" "_law_left" (defArgs s__law_left) (defBody s__law_left) (defScope s__law_left) .none kV11 dc11 pm11 an11 cd11 ct11), sl11⟩) (c11 : PySem.W.codeIn K cd11 "_law_left" = true) (k11 : PySem.W.keepIn K (.ref f11) = true)
    (a12 : PySem.W.nsIn K mainGlobals "_law_masks" = some (some (.ref f12))) (l12 : K.lookup f12 = some ⟨oc12, od12, .func (PySem.W.fnOf "_law_masks" "_law_masks" (defArgs s__law_masks) (defBody s__law_masks) (defScope s__law_masks) .none kV12 dc12 pm12 an12 cd12 ct12), sl12⟩) (c12 : PySem.W.codeIn K cd12 "_law_masks" = true) (k12 : PySem.W.keepIn K (.ref f12) = true)
    (a13 : PySem.W.nsIn K mainGlobals "law" = some (some (.ref f13))) (l13 : K.lookup f13 = some ⟨oc13, od13, .func (PySem.W.fnOf "law" "law" (defArgs s_law) (defBody s_law) (defScope s_law) .none kV13 dc13 pm13 an13 cd13 ct13), sl13⟩) (c13 : PySem.W.codeIn K cd13 "law" = true) (k13 : PySem.W.keepIn K (.ref f13) = true)
    (z_len : PySem.W.nsIn K mainGlobals "len" = some none)
    (z_abs : PySem.W.nsIn K mainGlobals "abs" = some none)
    (z_int : PySem.W.nsIn K mainGlobals "int" = some none)
    (z_min : PySem.W.nsIn K mainGlobals "min" = some none)
    (z_max : PySem.W.nsIn K mainGlobals "max" = some none)
    (z_sum : PySem.W.nsIn K mainGlobals "sum" = some none)
    (z_any : PySem.W.nsIn K mainGlobals "any" = some none)
    (z_all : PySem.W.nsIn K mainGlobals "all" = some none)
    (z_list : PySem.W.nsIn K mainGlobals "list" = some none)
    (z_sorted : PySem.W.nsIn K mainGlobals "sorted" = some none)
    (z_tuple : PySem.W.nsIn K mainGlobals "tuple" = some none)
    (z_range : PySem.W.nsIn K mainGlobals "range" = some none)
    (z_enumerate : PySem.W.nsIn K mainGlobals "enumerate" = some none)
    (z_zip : PySem.W.nsIn K mainGlobals "zip" = some none)
    (z_isinstance : PySem.W.nsIn K mainGlobals "isinstance" = some none)
    (z_bool : PySem.W.nsIn K mainGlobals "bool" = some none)
    (z_str : PySem.W.nsIn K mainGlobals "str" = some none)
    (z_dict : PySem.W.nsIn K mainGlobals "dict" = some none)
    (z_float : PySem.W.nsIn K mainGlobals "float" = some none)
    (xa0 : PySem.W.nsIn K mainGlobals "BastionError" = some (some (.ref x0)))
    (xq0 : PySem.W.excIn K x0 [.type "ValueError", .type "Exception", .type "BaseException", .type "object"] "ValueError.__new__" = true)
    (xk0 : PySem.W.keepIn K (.ref x0) = true)
    (xs0 : PySem.W.subIn K (.ref x0) (.type "BaseException") = some true)
    (xt0 : PySem.W.typeIn K (.ref x0) = some (.type "type"))
    (xd0 : PySem.W.hasDictIn K x0 = true)
    (xg0 : PySem.W.findIn K (.ref x0) "__getattribute__" = some (some (.builtin "BaseException.__getattribute__")))
    (xh0 : PySem.W.findIn K (.ref x0) "__getattr__" = some none)
    (xc0 : PySem.W.findIn K (.ref x0) "__class__" = some (some (.builtin "object.__class__")))
    (xm0 : PySem.W.mroIn K x0 (.type "object") = some true)
    (xa1 : PySem.W.nsIn K mainGlobals "NoSolution" = some (some (.ref x1)))
    (xq1 : PySem.W.excIn K x1 [.type "ValueError", .type "Exception", .type "BaseException", .type "object"] "ValueError.__new__" = true)
    (xk1 : PySem.W.keepIn K (.ref x1) = true)
    (xs1 : PySem.W.subIn K (.ref x1) (.type "BaseException") = some true)
    (xt1 : PySem.W.typeIn K (.ref x1) = some (.type "type"))
    (xd1 : PySem.W.hasDictIn K x1 = true)
    (xg1 : PySem.W.findIn K (.ref x1) "__getattribute__" = some (some (.builtin "BaseException.__getattribute__")))
    (xh1 : PySem.W.findIn K (.ref x1) "__getattr__" = some none)
    (xc1 : PySem.W.findIn K (.ref x1) "__class__" = some (some (.builtin "object.__class__")))
    (xm1 : PySem.W.mroIn K x1 (.type "object") = some true)
    (xa2 : PySem.W.nsIn K mainGlobals "InvalidText" = some (some (.ref x2)))
    (xq2 : PySem.W.excIn K x2 [.type "ValueError", .type "Exception", .type "BaseException", .type "object"] "ValueError.__new__" = true)
    (xk2 : PySem.W.keepIn K (.ref x2) = true)
    (xs2 : PySem.W.subIn K (.ref x2) (.type "BaseException") = some true)
    (xt2 : PySem.W.typeIn K (.ref x2) = some (.type "type"))
    (xd2 : PySem.W.hasDictIn K x2 = true)
    (xg2 : PySem.W.findIn K (.ref x2) "__getattribute__" = some (some (.builtin "BaseException.__getattribute__")))
    (xh2 : PySem.W.findIn K (.ref x2) "__getattr__" = some none)
    (xc2 : PySem.W.findIn K (.ref x2) "__class__" = some (some (.builtin "object.__class__")))
    (xm2 : PySem.W.mroIn K x2 (.type "object") = some true)
    (xn : PySem.W.specialIn K (.builtin "object.__class__") "__get__" = some (some (.builtin "getset_descriptor.__get__"))) (xw : PySem.W.takesIn K (.builtin "object.__class__") = some true)
    (u0 : PySem.W.subIn K (.ref x1) (.ref x1) = some true) (v0 : PySem.W.kitOne K (.ref x1) (.ref x1) = some true)
    (u1 : PySem.W.subIn K (.ref x1) (.ref x0) = some true) (v1 : PySem.W.kitOne K (.ref x1) (.ref x0) = some true)
    (u2 : PySem.W.subIn K (.ref x1) (.ref x2) = some false) (v2 : PySem.W.kitOne K (.ref x1) (.ref x2) = some false)
    : ∃ fd : FuncData, (∀ (s : Shared) (v : Value), BindsTo s fd ⟨[v], []⟩ [("script", v)]) ∧ ∀ base : Heap, K.In base → base.Ns mainGlobals mg → FnOk l.prog w K mg base (L2.CX l.prog w) 5 fa fd ["script"] (Eng.spLaw K) := by
  have e := hfa.symm.trans (PySem.W.mg_of X G a13)
  cases e
  have F0 := fun_mk (st := s_reduced) l0 c0 k0
  have B0 := F0.binds (ps := ["basis", "mask"]) fun _ _ _ _ _ _ us hl => match us, hl with | [_, _], _ => rfl
  have M0 : mg "reduced" = some (.ref f0) := PySem.W.mg_of X G a0
  have F1 := fun_mk (st := s_tagged) l1 c1 k1
  have B1 := F1.binds (ps := ["masks"]) fun _ _ _ _ _ _ us hl => match us, hl with | [_], _ => rfl
  have M1 : mg "tagged" = some (.ref f1) := PySem.W.mg_of X G a1
  have F2 := fun_mk (st := s_members) l2 c2 k2
  have B2 := F2.binds (ps := ["mask"]) fun _ _ _ _ _ _ us hl => match us, hl with | [_], _ => rfl
  have M2 : mg "members" = some (.ref f2) := PySem.W.mg_of X G a2
  have F3 := fun_mk (st := s_echelon) l3 c3 k3
  have B3 := F3.binds (ps := ["rows"]) fun _ _ _ _ _ _ us hl => match us, hl with | [_], _ => rfl
  have M3 : mg "echelon" = some (.ref f3) := PySem.W.mg_of X G a3
  have F4 := fun_mk (st := s_least_combination) l4 c4 k4
  have B4 := F4.binds (ps := ["masks", "total"]) fun _ _ _ _ _ _ us hl => match us, hl with | [_, _], _ => rfl
  have M4 : mg "least_combination" = some (.ref f4) := PySem.W.mg_of X G a4
  have F5 := fun_mk (st := s_combination) l5 c5 k5
  have B5 := F5.binds (ps := ["rows", "mask"]) fun _ _ _ _ _ _ us hl => match us, hl with | [_, _], _ => rfl
  have M5 : mg "combination" = some (.ref f5) := PySem.W.mg_of X G a5
  have F6 := fun_mk (st := s__law_is_integer) l6 c6 k6
  have B6 := F6.binds (ps := ["actual"]) fun _ _ _ _ _ _ us hl => match us, hl with | [_], _ => rfl
  have M6 : mg "_law_is_integer" = some (.ref f6) := PySem.W.mg_of X G a6
  have F7 := fun_mk (st := s__law_pool) l7 c7 k7
  have B7 := F7.binds (ps := ["script"]) fun _ _ _ _ _ _ us hl => match us, hl with | [_], _ => rfl
  have M7 : mg "_law_pool" = some (.ref f7) := PySem.W.mg_of X G a7
  have F8 := fun_mk (st := s__law_spread) l8 c8 k8
  have B8 := F8.binds (ps := ["cell"]) fun _ _ _ _ _ _ us hl => match us, hl with | [_], _ => rfl
  have M8 : mg "_law_spread" = some (.ref f8) := PySem.W.mg_of X G a8
  have F9 := fun_mk (st := s__law_draw) l9 c9 k9
  have B9 := F9.binds (ps := ["pool", "many"]) fun _ _ _ _ _ _ us hl => match us, hl with | [_, _], _ => rfl
  have M9 : mg "_law_draw" = some (.ref f9) := PySem.W.mg_of X G a9
  have F10 := fun_mk (st := s__law_basis) l10 c10 k10
  have B10 := F10.binds (ps := ["rows"]) fun _ _ _ _ _ _ us hl => match us, hl with | [_], _ => rfl
  have M10 : mg "_law_basis" = some (.ref f10) := PySem.W.mg_of X G a10
  have F11 := fun_mk (st := s__law_left) l11 c11 k11
  have B11 := F11.binds (ps := ["basis", "mask"]) fun _ _ _ _ _ _ us hl => match us, hl with | [_, _], _ => rfl
  have M11 : mg "_law_left" = some (.ref f11) := PySem.W.mg_of X G a11
  have F12 := fun_mk (st := s__law_masks) l12 c12 k12
  have B12 := F12.binds (ps := ["pool", "most", "width"]) fun _ _ _ _ _ _ us hl => match us, hl with | [_, _, _], _ => rfl
  have M12 : mg "_law_masks" = some (.ref f12) := PySem.W.mg_of X G a12
  have F13 := fun_mk (st := s_law) l13 c13 k13
  have hbl : ∀ x ∈ (["len", "abs", "int", "min", "max", "sum", "any", "all", "list", "sorted", "tuple", "range", "enumerate", "zip", "isinstance", "bool", "str", "dict", "float"] : List Str), mg x = none := by
    intro x hx
    simp only [List.mem_cons, List.not_mem_nil, or_false] at hx
    rcases hx with rfl | rfl | rfl | rfl | rfl | rfl | rfl | rfl | rfl | rfl | rfl | rfl | rfl | rfl | rfl | rfl | rfl | rfl | rfl
    · exact PySem.W.mg_none_of X G z_len
    · exact PySem.W.mg_none_of X G z_abs
    · exact PySem.W.mg_none_of X G z_int
    · exact PySem.W.mg_none_of X G z_min
    · exact PySem.W.mg_none_of X G z_max
    · exact PySem.W.mg_none_of X G z_sum
    · exact PySem.W.mg_none_of X G z_any
    · exact PySem.W.mg_none_of X G z_all
    · exact PySem.W.mg_none_of X G z_list
    · exact PySem.W.mg_none_of X G z_sorted
    · exact PySem.W.mg_none_of X G z_tuple
    · exact PySem.W.mg_none_of X G z_range
    · exact PySem.W.mg_none_of X G z_enumerate
    · exact PySem.W.mg_none_of X G z_zip
    · exact PySem.W.mg_none_of X G z_isinstance
    · exact PySem.W.mg_none_of X G z_bool
    · exact PySem.W.mg_none_of X G z_str
    · exact PySem.W.mg_none_of X G z_dict
    · exact PySem.W.mg_none_of X G z_float
  have G0 : mg "BastionError" = some (.ref x0) := PySem.W.mg_of X G xa0
  have G1 : mg "NoSolution" = some (.ref x1) := PySem.W.mg_of X G xa1
  have G2 : mg "InvalidText" = some (.ref x2) := PySem.W.mg_of X G xa2
  have hmk : ∀ C : Str, (["BastionError", "NoSolution", "InvalidText"] : List Str).contains C = true → ∃ a B newId initId bmB, ExcBaseFacts B newId initId bmB ∧ PySem.W.excIn K a bmB newId = true ∧ mg C = some (.ref a) ∧ PySem.W.keepIn K (.ref a) = true ∧ ∀ X : Cx, X.K = K → Raises X (.ref a) := by
    intro C hC
    simp only [List.contains_cons, List.contains_nil, Bool.or_false, Bool.or_eq_true, beq_iff_eq] at hC
    rcases hC with rfl | rfl | rfl
    · exact ⟨x0, _, _, _, _, PySem.F.excBase_ValueError, xq0, G0, xk0, fun X hX => by subst hX; exact raises_own xs0 xt0⟩
    · exact ⟨x1, _, _, _, _, PySem.F.excBase_ValueError, xq1, G1, xk1, fun X hX => by subst hX; exact raises_own xs1 xt1⟩
    · exact ⟨x2, _, _, _, _, PySem.F.excBase_ValueError, xq2, G2, xk2, fun X hX => by subst hX; exact raises_own xs2 xt2⟩
  have hex : ∀ (D C : Str) (b : Bool), subT D C = some b → ∃ a cv, mg D = some (.ref a) ∧ mg C = some (.ref cv) ∧ ExcC K a ∧ PySem.W.exmOne K (.ref a) (.ref cv) = some b ∧ PySem.W.kitOne K (.ref a) (.ref cv) = some b := by
    intro D C b h
    unfold subT at h
    split at h
    · rename_i hD
      subst hD
      split at h
      · rename_i hC
        subst hC; cases h; exact ⟨x1, x1, G1, G1, ⟨xg1, xh1, xs1, xd1, xc1, xn, xw, xm1⟩, PySem.W.exm_ref xs1 xd1 xt1 u0, v0⟩
      · split at h
        · rename_i hC
          subst hC; cases h; exact ⟨x1, x0, G1, G0, ⟨xg1, xh1, xs1, xd1, xc1, xn, xw, xm1⟩, PySem.W.exm_ref xs0 xd0 xt0 u1, v1⟩
        · split at h
          · rename_i hC
            subst hC; cases h; exact ⟨x1, x2, G1, G2, ⟨xg1, xh1, xs1, xd1, xc1, xn, xw, xm1⟩, PySem.W.exm_ref xs2 xd2 xt2 u2, v2⟩
          · cases h
    · cases h
  refine ⟨PySem.W.fnOf "law" "law" (defArgs s_law) (defBody s_law) (defScope s_law) .none kV13 dc13 pm13 an13 cd13 ct13, fun s v => .of_eq rfl, fun base _ _ => ?_⟩
  have C0 : Cal l.prog w K (fun _ => none) mg base 1 "reduced" Φ_reduced := cal_of (E := E_reduced) (Γ := Gm0 subT) (lev := 0) F0 sc_reduced rfl ⟨rfl, rfl, hbl, (fun x d h => by cases h), tab_nil, hmk, hex⟩ cb_reduced M0 F0.kp B0
  have C1 : Cal l.prog w K (fun _ => none) mg base 1 "tagged" Φ_tagged := cal_of (E := E_tagged) (Γ := Gm0 subT) (lev := 0) F1 sc_tagged rfl ⟨rfl, rfl, hbl, (fun x d h => by cases h), tab_nil, hmk, hex⟩ cb_tagged M1 F1.kp B1
  have C2 : Cal l.prog w K (fun _ => none) mg base 1 "members" Φ_members := cal_of (E := E_members) (Γ := Gm0 subT) (lev := 0) F2 sc_members rfl ⟨rfl, rfl, hbl, (fun x d h => by cases h), tab_nil, hmk, hex⟩ cb_members M2 F2.kp B2
  have C3 : Cal l.prog w K (fun _ => none) mg base 2 "echelon" Φ_echelon := cal_of (E := E_echelon) (Γ := (Gm0 subT).add "reduced" Φ_reduced) (lev := 1) F3 sc_echelon rfl ⟨rfl, rfl, hbl, (fun x d h => by cases h), (tab_cons C0 (by decide) (Gm.add_same) tab_nil), hmk, hex⟩ cb_echelon M3 F3.kp B3
  have C4 : Cal l.prog w K (fun _ => none) mg base 3 "least_combination" Φ_least := cal_of (E := E_least_combination) (Γ := Γ2) (lev := 2) F4 sc_least_combination rfl ⟨rfl, rfl, hbl, (fun x d h => by cases h), (tab_cons C0 (by decide) (Γ2_r) (tab_cons C3 (by decide) (Γ2_e) (tab_cons C1 (by decide) (Γ2_t) tab_nil))), hmk, hex⟩ cb_least_combination M4 F4.kp B4
  have C5 : Cal l.prog w K (fun _ => none) mg base 4 "combination" Φ_comb := cal_of (E := E_combination) (Γ := Γ3) (lev := 3) F5 sc_combination rfl ⟨rfl, rfl, hbl, (fun x d h => by cases h), (tab_cons C2 (by decide) (Γ3_m) (tab_cons C4 (by decide) (Γ3_l) tab_nil)), hmk, hex⟩ cb_combination M5 F5.kp B5
  have C6 : Cal l.prog w K (fun _ => none) mg base 1 "_law_is_integer" Φ_isint := cal_of (E := E__law_is_integer) (Γ := Gm0 subT) (lev := 0) F6 sc__law_is_integer rfl ⟨rfl, rfl, hbl, (fun x d h => by cases h), tab_nil, hmk, hex⟩ cb__law_is_integer M6 F6.kp B6
  have C7 : Cal l.prog w K (fun _ => none) mg base 1 "_law_pool" Φ_pool := cal_of (E := E__law_pool) (Γ := Gm0 subT) (lev := 0) F7 sc__law_pool rfl ⟨rfl, rfl, hbl, (fun x d h => by cases h), tab_nil, hmk, hex⟩ cb__law_pool M7 F7.kp B7
  have C8 : Cal l.prog w K (fun _ => none) mg base 1 "_law_spread" Φ_spread := cal_of (E := E__law_spread) (Γ := Gm0 subT) (lev := 0) F8 sc__law_spread rfl ⟨rfl, rfl, hbl, (fun x d h => by cases h), tab_nil, hmk, hex⟩ cb__law_spread M8 F8.kp B8
  have C9 : Cal l.prog w K (fun _ => none) mg base 2 "_law_draw" Φ_draw := cal_of (E := E__law_draw) (Γ := Γd) (lev := 1) F9 sc__law_draw rfl ⟨rfl, rfl, hbl, (fun x d h => by cases h), (tab_cons C8 (by decide) (Γd_s) tab_nil), hmk, hex⟩ cb__law_draw M9 F9.kp B9
  have C10 : Cal l.prog w K (fun _ => none) mg base 1 "_law_basis" Φ_basis := cal_of (E := E__law_basis) (Γ := Gm0 subT) (lev := 0) F10 sc__law_basis rfl ⟨rfl, rfl, hbl, (fun x d h => by cases h), tab_nil, hmk, hex⟩ cb__law_basis M10 F10.kp B10
  have C11 : Cal l.prog w K (fun _ => none) mg base 1 "_law_left" Φ_left := cal_of (E := E__law_left) (Γ := Gm0 subT) (lev := 0) F11 sc__law_left rfl ⟨rfl, rfl, hbl, (fun x d h => by cases h), tab_nil, hmk, hex⟩ cb__law_left M11 F11.kp B11
  have C12 : Cal l.prog w K (fun _ => none) mg base 3 "_law_masks" Φ_masks := cal_of (E := E__law_masks) (Γ := Γk) (lev := 2) F12 sc__law_masks rfl ⟨rfl, rfl, hbl, (fun x d h => by cases h), (tab_cons C9 (by decide) (Γk_d) tab_nil), hmk, hex⟩ cb__law_masks M12 F12.kp B12
  exact law_okP (cm := fun _ => none) (Φ := Φ_law) (def_okP (E := E_law) (Γ := Γl) (lev := 4) F13 sc_law rfl ⟨rfl, rfl, hbl, (fun x d h => by cases h), (tab_cons C7 (by decide) (Γl_1) (tab_cons C12 (by decide) (Γl_2) (tab_cons C9 (by decide) (Γl_3) (tab_cons C11 (by decide) (Γl_4) (tab_cons C5 (by decide) (Γl_5) (tab_cons C10 (by decide) (Γl_6) (tab_cons C6 (by decide) (Γl_7) tab_nil))))))), hmk, hex⟩ cb_law) law_run
end Pf
open PySem PySem.W PyProof.Rows
set_option maxHeartbeats 0 in
theorem PySem.Challenge.cw_bastion_k03_combinations_holds : PySem.Challenge.rw_bastion_k03_combinations.Holds := by
  w_on; o_law; k_head; (case hw => w_witness2)
  k_fill
  refine L2.walk_of (l := PySem.Challenge.rw_bastion_k03_combinations) (n := 63) (k := 5) (x := "script") (CX := fun w => L2.CX (PySem.Challenge.rw_bastion_k03_combinations).prog w) (sp := fun w => Eng.spLaw _) rfl (by decide) rfl ⟨rfl, by decide, by decide⟩ (fun w h Y => PySem.W.kIn_of Y) ?F (fun _ _ a ns hl _ hS => ⟨a, ns, rfl, hS, hl, fun _ => rfl⟩) (fun _ _ _ _ _ h => Py.cx_no h)
  case F =>
    intro w mg fa h KX G hmg
    refine' Pf.all_mk KX G hmg ?a0 ?l0 ?c0 ?k0 ?a1 ?l1 ?c1 ?k1 ?a2 ?l2 ?c2 ?k2 ?a3 ?l3 ?c3 ?k3 ?a4 ?l4 ?c4 ?k4 ?a5 ?l5 ?c5 ?k5 ?a6 ?l6 ?c6 ?k6 ?a7 ?l7 ?c7 ?k7 ?a8 ?l8 ?c8 ?k8 ?a9 ?l9 ?c9 ?k9 ?a10 ?l10 ?c10 ?k10 ?a11 ?l11 ?c11 ?k11 ?a12 ?l12 ?c12 ?k12 ?a13 ?l13 ?c13 ?k13 ?z_len ?z_abs ?z_int ?z_min ?z_max ?z_sum ?z_any ?z_all ?z_list ?z_sorted ?z_tuple ?z_range ?z_enumerate ?z_zip ?z_isinstance ?z_bool ?z_str ?z_dict ?z_float ?xa0 ?xq0 ?xk0 ?xs0 ?xt0 ?xd0 ?xg0 ?xh0 ?xc0 ?xm0 ?xa1 ?xq1 ?xk1 ?xs1 ?xt1 ?xd1 ?xg1 ?xh1 ?xc1 ?xm1 ?xa2 ?xq2 ?xk2 ?xs2 ?xt2 ?xd2 ?xg2 ?xh2 ?xc2 ?xm2 ?xn ?xw ?u0 ?v0 ?u1 ?v1 ?u2 ?v2
    (case a0 => k_is); (case l0 => k_is); (case c0 => k_is); (case k0 => k_is); (case a1 => k_is); (case l1 => k_is); (case c1 => k_is); (case k1 => k_is); (case a2 => k_is); (case l2 => k_is); (case c2 => k_is); (case k2 => k_is); (case a3 => k_is); (case l3 => k_is); (case c3 => k_is); (case k3 => k_is); (case a4 => k_is); (case l4 => k_is); (case c4 => k_is); (case k4 => k_is); (case a5 => k_is); (case l5 => k_is); (case c5 => k_is); (case k5 => k_is); (case a6 => k_is); (case l6 => k_is); (case c6 => k_is); (case k6 => k_is); (case a7 => k_is); (case l7 => k_is); (case c7 => k_is); (case k7 => k_is); (case a8 => k_is); (case l8 => k_is); (case c8 => k_is); (case k8 => k_is); (case a9 => k_is); (case l9 => k_is); (case c9 => k_is); (case k9 => k_is); (case a10 => k_is); (case l10 => k_is); (case c10 => k_is); (case k10 => k_is); (case a11 => k_is); (case l11 => k_is); (case c11 => k_is); (case k11 => k_is); (case a12 => k_is); (case l12 => k_is); (case c12 => k_is); (case k12 => k_is); (case a13 => k_is); (case l13 => k_is); (case c13 => k_is); (case k13 => k_is); (case z_len => k_is); (case z_abs => k_is); (case z_int => k_is); (case z_min => k_is); (case z_max => k_is); (case z_sum => k_is); (case z_any => k_is); (case z_all => k_is); (case z_list => k_is); (case z_sorted => k_is); (case z_tuple => k_is); (case z_range => k_is); (case z_enumerate => k_is); (case z_zip => k_is); (case z_isinstance => k_is); (case z_bool => k_is); (case z_str => k_is); (case z_dict => k_is); (case z_float => k_is); (case xa0 => k_is); (case xq0 => first | k_is | rfl | decide +kernel | kernel_rfl); (case xk0 => k_is); (case xs0 => k_is); (case xt0 => k_is); (case xd0 => k_is); (case xg0 => k_is); (case xh0 => k_is); (case xc0 => k_is); (case xm0 => k_is); (case xa1 => k_is); (case xq1 => first | k_is | rfl | decide +kernel | kernel_rfl); (case xk1 => k_is); (case xs1 => k_is); (case xt1 => k_is); (case xd1 => k_is); (case xg1 => k_is); (case xh1 => k_is); (case xc1 => k_is); (case xm1 => k_is); (case xa2 => k_is); (case xq2 => first | k_is | rfl | decide +kernel | kernel_rfl); (case xk2 => k_is); (case xs2 => k_is); (case xt2 => k_is); (case xd2 => k_is); (case xg2 => k_is); (case xh2 => k_is); (case xc2 => k_is); (case xm2 => k_is); (case xn => k_is); (case xw => k_is); (case u0 => k_is); (case v0 => first | k_is | rfl | decide +kernel | kernel_rfl); (case u1 => k_is); (case v1 => first | k_is | rfl | decide +kernel | kernel_rfl); (case u2 => k_is); (case v2 => first | k_is | rfl | decide +kernel | kernel_rfl)

