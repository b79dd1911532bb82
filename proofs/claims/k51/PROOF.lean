import PyProof.Rows.All
import Wide.All
import OpenK.AllK
import Wide.FinOn
import HandS.ForMost
import HandS.Wide
import HandS.WideBits
import HandS.IsInst
import HandS.Evl
import HandS.Conv
import HandS.FStr
import PyProof.FString3
import PyProof.Rows.StrIntSpec
import HandS.More
import KE.KDictDisplayH
import HandS.Zip
import HandS.SortKw
import HandS.SortInts
import HandS.Deep
import HandS.TupSets
import PySem.Challenge.RW_bastion_k51_judges_of_joins
set_option Elab.async false
set_option linter.all false
set_option maxRecDepth 100000
set_option maxHeartbeats 4000000
set_option Elab.async false
set_option linter.all false
set_option maxRecDepth 100000
set_option maxHeartbeats 2000000
namespace Eng
open PySem PySem.Spec PyProof.Rows L2
open Evl (Ex)

/-! ### canonical readings: what a piece of syntax is asked, by its own run -/
def wE (X : Cx) (e : Expr) : TE := fun σ H Q => ∀ pins s, Inv X pins σ H s → wpAny (model X.prog X.w) X.A (eval e X.env) (EP X pins σ Q) X.xe s
def wT (X : Cx) (e : Expr) : TT := fun σ H Q => ∀ pins s, Inv X pins σ H s → wpAny (model X.prog X.w) X.A (isTrue e X.env (eval e X.env)) (TP X pins σ Q) X.xe s
def wA (X : Cx) (es : List Expr) : TA := fun σ H Q => ∀ pos pins s, Inv X pins σ H s → wpAny (model X.prog X.w) X.A (spliced (backTo pos (starEach es X.env))) (AP X pins σ Q) X.xe s
def wS (X : Cx) (st : Stmt) : TS := fun D σ H => ∀ pins s, Inv X pins σ H s → wpAny (model X.prog X.w) X.A (exec st X.env) (SP X pins D) X.xe s
def wB (X : Cx) (sts : List Stmt) : TS := fun D σ H => ∀ pins s, Inv X pins σ H s → wpAny (model X.prog X.w) X.A (execs sts X.env) (SP X pins D) X.xe s
section
variable {X : Cx} {e : Expr} {es : List Expr} {st : Stmt} {sts : List Stmt} {σ : L2.St} {H : Hp} {t : TE} {tt : TT} {ta : TA} {ts : TS}
theorem pe_w : PE X e (wE X e) := ⟨fun pins s _ _ _ I h => h pins s I⟩
theorem pt_w : PT X e (wT X e) := ⟨fun pins s _ _ _ I h => h pins s I⟩
theorem pa_w : PA X es (wA X es) := ⟨fun pos pins s _ _ _ I h => h pos pins s I⟩
theorem ps_w : PS X st (wS X st) := ⟨fun pins s _ _ _ I h => h pins s I⟩
theorem pss_w : PSs X sts (wB X sts) := ⟨fun pins s _ _ _ I h => h pins s I⟩
theorem wE_of {Q : VK} (h : PE X e t) (q : t σ H Q) : wE X e σ H Q := fun pins s I => h.run pins s σ H Q I q
theorem wT_of {Q : Bool → Hp → Prop} (h : PT X e tt) (q : tt σ H Q) : wT X e σ H Q := fun pins s I => h.run pins s σ H Q I q
theorem wA_of {Q : List V → Hp → Prop} (h : PA X es ta) (q : ta σ H Q) : wA X es σ H Q := fun pos pins s I => h.run pos pins s σ H Q I q
theorem wS_of {D : Ends} (h : PS X st ts) (q : ts D σ H) : wS X st D σ H := fun pins s I => h.run pins s σ H D I q
theorem wB_of {D : Ends} (h : PSs X sts ts) (q : ts D σ H) : wB X sts D σ H := fun pins s I => h.run pins s σ H D I q
theorem wE_mono {Q Q' : VK} (h : wE X e σ H Q) (k : ∀ v H', Q v H' → Q' v H') : wE X e σ H Q' := fun pins s I =>
  thn (h pins s I) fun u s' ⟨v, H', I', r, q⟩ => ⟨v, H', I', r, k v H' q⟩
theorem wT_mono {Q Q' : Bool → Hp → Prop} (h : wT X e σ H Q) (k : ∀ v H', Q v H' → Q' v H') : wT X e σ H Q' := fun pins s I =>
  thn (h pins s I) fun u s' ⟨H', I', q⟩ => ⟨H', I', k _ H' q⟩
theorem wA_mono {Q Q' : List V → Hp → Prop} (h : wA X es σ H Q) (k : ∀ v H', Q v H' → Q' v H') : wA X es σ H Q' := fun pos pins s I =>
  thn (h pos pins s I) fun u s' ⟨v, H', I', r, q⟩ => ⟨v, H', I', r, k v H' q⟩
end

/-! ### data and heaps -/
section
variable {K : PySem.W.Frag} {G G' H H' : Hp}
mutual
theorem dp_up (e : Ex G G') : ∀ {v : V} (d : PyData), Dp K G v d → Dp K G' v d
  | _, .none, h => by cases h; exact .non
  | _, .bool b, h => by cases h; exact .bl b
  | _, .int i, h => by cases h; exact .int i
  | _, .str x, h => by cases h; exact .str x
  | _, .list ds, h => by cases h with | lst hs ha => exact .lst (Evl.ex_l e hs) (dp_upAll e ds ha)
  | _, .tuple ds, h => by cases h with | tup hs ha => exact .tup (Evl.ex_t e hs) (dp_upAll e ds ha)
  | _, .dict _, h => by cases h
theorem dp_upAll (e : Ex G G') : ∀ {vs : List V} (ds : List PyData), DpAll K G vs ds → DpAll K G' vs ds
  | _, [], h => by cases h; exact .nil
  | _, d :: ds, h => by cases h with | cons h1 h2 => exact .cons (dp_up e d h1) (dp_upAll e ds h2)
end
theorem dall_len : ∀ {vs : List V} {ds : List PyData}, DpAll K G vs ds → vs.length = ds.length
  | _, _, .nil => rfl
  | _, _, .cons _ h => congrArg (· + 1) (dall_len h)
theorem dall_get : ∀ {vs : List V} {ds : List PyData} {i : Nat} {d : PyData}, DpAll K G vs ds → ds[i]? = some d → ∃ v, vs[i]? = some v ∧ Dp K G v d
  | _, _, _, _, .nil, e => by simp at e
  | _, _, 0, _, .cons r _, e => by simp at e; subst e; exact ⟨_, rfl, r⟩
  | _, _, i + 1, d, .cons _ t, e => by
    obtain ⟨v, h1, h2⟩ := dall_get (i := i) (d := d) t (by simpa using e)
    exact ⟨v, by simpa using h1, h2⟩
theorem dall_getV : ∀ {vs : List V} {ds : List PyData} {i : Nat} {v : V}, DpAll K G vs ds → vs[i]? = some v → ∃ d, ds[i]? = some d ∧ Dp K G v d
  | _, _, _, _, .nil, e => by simp at e
  | _, _, 0, _, .cons r _, e => by simp at e; subst e; exact ⟨_, rfl, r⟩
  | _, _, i + 1, v, .cons _ t, e => by
    obtain ⟨d, h1, h2⟩ := dall_getV (i := i) (v := v) t (by simpa using e)
    exact ⟨d, by simpa using h1, h2⟩
theorem dall_app : ∀ {vs ws : List V} {ds es : List PyData}, DpAll K G vs ds → DpAll K G ws es → DpAll K G (vs ++ ws) (ds ++ es)
  | _, _, _, _, .nil, h => h
  | _, _, _, _, .cons r t, h => .cons r (dall_app t h)
theorem dall_set {v : V} {d : PyData} (r : Dp K G v d) : ∀ {vs : List V} {ds : List PyData} (i : Nat), DpAll K G vs ds → DpAll K G (vs.set i v) (ds.set i d)
  | _, _, _, .nil => .nil
  | _, _, 0, .cons _ t => .cons r t
  | _, _, i + 1, .cons q t => .cons q (dall_set r i t)
theorem dall_ints : ∀ {ns : List Int}, DpAll K G (ns.map V.int) (ns.map PyData.int)
  | [] => .nil
  | _ :: _ => .cons (.int _) dall_ints
theorem dall_ints_inv : ∀ {vs : List V} {ns : List Int}, DpAll K G vs (ns.map PyData.int) → vs = ns.map V.int
  | _, [], h => by cases h; rfl
  | _, n :: ns, h => by
    cases h with
    | cons h1 h2 =>
      cases h1
      rw [dall_ints_inv h2]
      rfl
theorem dp_int {v : V} {i : Int} (h : Dp K G v (.int i)) : v = .int i := by cases h; rfl
theorem dp_str {v : V} {i : Str} (h : Dp K G v (.str i)) : v = .str i := by cases h; rfl
theorem dp_bl {v : V} {i : Bool} (h : Dp K G v (.bool i)) : v = .bl i := by cases h; rfl
theorem dp_non {v : V} (h : Dp K G v .none) : v = .non := by cases h; rfl
theorem dp_list {v : V} {ds : List PyData} (h : Dp K G v (.list ds)) : ∃ a xs, v = .ref a ∧ SqL K G a xs ∧ DpAll K G xs ds := by cases h with | lst a b => exact ⟨_, _, rfl, a, b⟩
theorem dp_tup {v : V} {ds : List PyData} (h : Dp K G v (.tuple ds)) : ∃ a xs, v = .ref a ∧ SqT K G a xs ∧ DpAll K G xs ds := by cases h with | tup a b => exact ⟨_, _, rfl, a, b⟩
end

/-- the pool of a law: a list of the script and four ints, changed by its reader -/
def PoolOk (K : PySem.W.Frag) (G H : Hp) (a : Addr) : Prop :=
  ∃ (l : Addr) (ns : List Int) (i c d s : Int), H a = some (.lst [.ref l, .int i, .int c, .int d, .int s]) ∧ SqL K G l (ns.map V.int) ∧ 0 ≤ i ∧ ns.length ≤ 63

/-- a stretch of the run: G, G' what is known to stand still, H, H' the heap -/
structure Stp (K : PySem.W.Frag) (pa : Option Addr) (G H G' H' : Hp) : Prop where
  ex : Ex G G'
  fr : ∀ b, H b ≠ none → G b = none → G' b = none
  keep : ∀ b o, pa ≠ some b → H b = some o → H' b = some o
  sub : Ex G' H'
  pool : ∀ a, pa = some a → H a ≠ none ∧ G' a = none ∧ PoolOk K G' H' a
section
variable {K : PySem.W.Frag} {pa : Option Addr} {G H G1 H1 G2 H2 : Hp}
theorem PoolOk.up {a : Addr} {G G' : Hp} (e : Ex G G') (h : PoolOk K G H a) : PoolOk K G' H a := by
  obtain ⟨l, ns, i, c, d, s, h1, h2, h3⟩ := h
  exact ⟨l, ns, i, c, d, s, h1, Evl.ex_l e h2, h3⟩
theorem PoolOk.ne {a : Addr} (h : PoolOk K G H a) : H a ≠ none := by
  obtain ⟨l, ns, i, c, d, s, h1, h2, h3⟩ := h
  rw [h1]
  exact fun z => nomatch z
theorem Stp.live (a : Stp K pa G H G1 H1) (b : Addr) (h : H b ≠ none) : H1 b ≠ none := by
  by_cases hp : pa = some b
  · exact (a.pool b hp).2.2.ne
  · cases q : H b with
    | none => exact absurd q h
    | some o => rw [a.keep b o hp q]; exact fun z => nomatch z
theorem Stp.trans (a : Stp K pa G H G1 H1) (b : Stp K pa G1 H1 G2 H2) : Stp K pa G H G2 H2 where
  ex := a.ex.trans b.ex
  fr := fun c h g => b.fr c (a.live c h) (a.fr c h g)
  keep := fun c o h q => b.keep c o h (a.keep c o h q)
  sub := b.sub
  pool := fun c h => ⟨(a.pool c h).1, (b.pool c h).2⟩
/-- nothing happens -/
theorem Stp.refl (a : Stp K pa G H G1 H1) : Stp K pa G1 H1 G1 H1 :=
  ⟨Ex.refl _, fun _ _ h => h, fun _ _ _ h => h, a.sub, fun c h => ⟨(a.pool c h).2.2.ne, (a.pool c h).2⟩⟩
/-- a new object that will not change -/
theorem Stp.new {p : Addr} {o : HO} (a : Stp K pa G H G1 H1) (h : H1 p = none) : Stp K pa G1 H1 (upd G1 p o) (upd H1 p o) := by
  have hg : G1 p = none := Evl.fresh_back a.sub h
  refine ⟨Ex.new hg, fun b hb g => ?_, fun b u _ q => ?_, fun b u q => ?_, fun c hc => ?_⟩
  · rw [upd_ne (fun z => hb (by rw [z]; exact h))]; exact g
  · rw [upd_ne (ne_of_none q h)]; exact q
  · by_cases z : b = p
    · subst z; rw [upd_same] at q ⊢; exact q
    · rw [upd_ne z] at q ⊢; exact a.sub b u q
  · obtain ⟨z1, z2, z3⟩ := a.pool c hc
    have ne := z3.ne
    have hcp : c ≠ p := fun z => ne (by rw [z]; exact h)
    refine ⟨ne, by rw [upd_ne hcp]; exact z2, ?_⟩
    obtain ⟨l, ns, i, cc, d, s, h1, h2, h3⟩ := z3
    exact ⟨l, ns, i, cc, d, s, by rw [upd_ne hcp]; exact h1, Evl.ex_l (Ex.new hg) h2, h3⟩
/-- a new object that may change -/
theorem Stp.lay {p : Addr} {o : HO} (a : Stp K pa G H G1 H1) (h : H1 p = none) : Stp K pa G1 H1 G1 (upd H1 p o) := by
  have hg : G1 p = none := Evl.fresh_back a.sub h
  refine ⟨Ex.refl _, fun _ _ g => g, fun b u _ q => ?_, Ex.mut a.sub hg, fun c hc => ?_⟩
  · rw [upd_ne (ne_of_none q h)]; exact q
  · obtain ⟨z1, z2, z3⟩ := a.pool c hc
    have ne := z3.ne
    have hcp : c ≠ p := fun z => ne (by rw [z]; exact h)
    refine ⟨ne, z2, ?_⟩
    obtain ⟨l, ns, i, cc, d, s, h1, h2, h3⟩ := z3
    exact ⟨l, ns, i, cc, d, s, by rw [upd_ne hcp]; exact h1, h2, h3⟩
/-- an object that is new since H, and not known to stand still, changes -/
theorem Stp.mut {p : Addr} {o : HO} (a : Stp K pa G H G1 H1) (h : H p = none) (hg : G1 p = none) : Stp K pa G H G1 (upd H1 p o) := by
  refine ⟨a.ex, a.fr, fun b u hb q => ?_, Ex.mut a.sub hg, fun c hc => ?_⟩
  · rw [upd_ne (ne_of_none q h)]; exact a.keep b u hb q
  · obtain ⟨z1, z2, z3⟩ := a.pool c hc
    have hcp : c ≠ p := fun z => z1 (by rw [z]; exact h)
    refine ⟨z1, z2, ?_⟩
    obtain ⟨l, ns, i, cc, d, s, h1, h2, h3⟩ := z3
    exact ⟨l, ns, i, cc, d, s, by rw [upd_ne hcp]; exact h1, h2, h3⟩
/-- such an object stands still from now on -/
theorem Stp.frz {p : Addr} {o : HO} (a : Stp K pa G H G1 H1) (h : H p = none) (hg : G1 p = none) (ho : H1 p = some o) : Stp K pa G H (upd G1 p o) H1 := by
  have e : Ex G1 (upd G1 p o) := Ex.new hg
  refine ⟨a.ex.trans e, fun b hb g => ?_, a.keep, fun b u q => ?_, fun c hc => ?_⟩
  · rw [upd_ne (fun z => hb (by rw [z]; exact h))]; exact a.fr b hb g
  · by_cases z : b = p
    · subst z; rw [upd_same] at q; rw [ho]; exact q
    · rw [upd_ne z] at q; exact a.sub b u q
  · obtain ⟨z1, z2, z3⟩ := a.pool c hc
    have hcp : c ≠ p := fun z => z1 (by rw [z]; exact h)
    exact ⟨z1, by rw [upd_ne hcp]; exact z2, z3.up e⟩
end

/-! ### the abstract state -/
inductive SV where
  | dat (d : PyData) | own (k : Nat) | pool | any
structure AS where
  ρ : List SV
  μ : List (Option (List PyData))
structure Ct where
  H0 : Hp
  B0 : Hp
  pa : Option Addr
  fx : List Addr := []
def SlotOk (K : PySem.W.Frag) (pa : Option Addr) (G : Hp) (ps : List Addr) (slot : Option (Option V)) : SV → Prop
  | .dat d => ∃ v, slot = some (some v) ∧ Dp K G v d
  | .own k => ∃ p, ps[k]? = some p ∧ slot = some (some (.ref p))
  | .pool => ∃ a, pa = some a ∧ slot = some (some (.ref a))
  | .any => True
structure St (K : PySem.W.Frag) (c : Ct) (A : AS) (G : Hp) (ps : List Addr) (σ : L2.St) (H : Hp) : Prop where
  st : Stp K c.pa c.B0 c.H0 G H
  len : σ.length = A.ρ.length
  sl : ∀ (i : Nat) (sv : SV), A.ρ[i]? = some sv → SlotOk K c.pa G ps σ[i]? sv
  mlen : ps.length = A.μ.length
  inj : ∀ (i j : Nat) (p : Addr), ps[i]? = some p → ps[j]? = some p → i = j
  pre : ∀ (i : Nat) (p : Addr), c.fx[i]? = some p → ps[i]? = some p
  new : ∀ p ∈ ps, c.H0 p = none ∧ H p ≠ none
  mu : ∀ (k : Nat) (p : Addr) (ds : List PyData), ps[k]? = some p → A.μ[k]? = some (some ds) → G p = none ∧ ∃ xs, H p = some (.lst xs) ∧ DpAll K G xs ds
/-- results -/
inductive RV where
  | D (d : PyData) | L (ds : List PyData)
abbrev RV.frz : RV → PyData
  | .D d => d
  | .L ds => .list ds
def ROk (K : PySem.W.Frag) (G H H' : Hp) (v : V) : RV → Prop
  | .D d => Dp K G v d
  | .L ds => ∃ p xs, v = .ref p ∧ H p = none ∧ G p = none ∧ H' p = some (.lst xs) ∧ DpAll K G xs ds
section
variable {K : PySem.W.Frag} {c : Ct} {A : AS} {G H G1 H1 G2 H2 : Hp} {ps : List Addr} {σ : L2.St}
theorem SlotOk.up {pa : Option Addr} {slot : Option (Option V)} {sv : SV} (e : Ex G G1) (h : SlotOk K pa G ps slot sv) : SlotOk K pa G1 ps slot sv := by
  cases sv with
  | dat d =>
    obtain ⟨v, h1, h2⟩ := h
    exact ⟨v, h1, dp_up e d h2⟩
  | own k => exact h
  | pool => exact h
  | any => exact h
theorem St.step (h : St K c A G ps σ H) (s : Stp K c.pa G H G1 H1) : St K c A G1 ps σ H1 where
  st := h.st.trans s
  len := h.len
  sl := fun i sv e => (h.sl i sv e).up s.ex
  mlen := h.mlen
  inj := h.inj
  pre := h.pre
  new := fun p hp => ⟨(h.new p hp).1, s.live p (h.new p hp).2⟩
  mu := fun k p ds hk hm => by
    obtain ⟨g, xs, hx, hd⟩ := h.mu k p ds hk hm
    have hp := (h.new p (List.mem_of_getElem? hk))
    have np : c.pa ≠ some p := fun z => (h.st.pool p z).1 hp.1
    exact ⟨s.fr p hp.2 g, xs, s.keep p _ np hx, dp_upAll s.ex ds hd⟩
theorem St.refl (h : St K c A G ps σ H) : Stp K c.pa G H G H := h.st.refl
/-- a slot gets data -/
theorem St.put {i : Nat} {v : V} {d : PyData} (h : St K c A G ps σ H) (r : Dp K G v d) : St K c ⟨A.ρ.set i (.dat d), A.μ⟩ G ps (σ.set i (some v)) H where
  st := h.st
  len := by rw [List.length_set, List.length_set]; exact h.len
  sl := fun j sv e => by
    by_cases z : i = j
    · subst z
      have e' : (A.ρ.set i (.dat d))[i]? = some sv := e
      rw [List.getElem?_set_self'] at e'
      have hl : i < A.ρ.length := by
        cases q : A.ρ[i]? with
        | none => rw [q] at e'; cases e'
        | some y => exact (List.getElem?_eq_some_iff.mp q).1
      rw [List.getElem?_eq_getElem hl] at e'
      have e2 : SV.dat d = sv := Option.some.inj e'
      subst e2
      exact ⟨v, by rw [List.getElem?_set_self (by rw [h.len]; exact hl)], r⟩
    · have e' : (A.ρ.set i (.dat d))[j]? = some sv := e
      rw [List.getElem?_set_ne z] at e'
      rw [List.getElem?_set_ne z]
      exact h.sl j sv e'
  mlen := h.mlen
  inj := h.inj
  pre := h.pre
  new := h.new
  mu := h.mu
/-- a slot gets a new list that will change -/
theorem St.putM {i : Nat} {p : Addr} {xs : List V} {ds : List PyData} (h : St K c A G ps σ H) (h0 : c.H0 p = none) (hn : p ∉ ps) (hg : G p = none) (hp : H p = some (.lst xs)) (r : DpAll K G xs ds) :
    St K c ⟨A.ρ.set i (.own A.μ.length), A.μ ++ [some ds]⟩ G (ps ++ [p]) (σ.set i (some (.ref p))) H where
  st := h.st
  len := by rw [List.length_set, List.length_set]; exact h.len
  sl := fun j sv e => by
    have up : ∀ {slot : Option (Option V)} {sv : SV}, SlotOk K c.pa G ps slot sv → SlotOk K c.pa G (ps ++ [p]) slot sv := fun {slot sv} q => by
      cases sv with
      | own k =>
        obtain ⟨p', h1, h2⟩ := q
        exact ⟨p', by rw [List.getElem?_append_left (List.getElem?_eq_some_iff.mp h1).1]; exact h1, h2⟩
      | dat d => exact q
      | pool => exact q
      | any => exact q
    by_cases z : i = j
    · subst z
      have e' : (A.ρ.set i (.own A.μ.length))[i]? = some sv := e
      rw [List.getElem?_set_self'] at e'
      have hl : i < A.ρ.length := by
        cases q : A.ρ[i]? with
        | none => rw [q] at e'; cases e'
        | some y => exact (List.getElem?_eq_some_iff.mp q).1
      rw [List.getElem?_eq_getElem hl] at e'
      have e2 : SV.own A.μ.length = sv := Option.some.inj e'
      subst e2
      exact ⟨p, by rw [← h.mlen]; simp, by rw [List.getElem?_set_self (by rw [h.len]; exact hl)]⟩
    · have e' : (A.ρ.set i (.own A.μ.length))[j]? = some sv := e
      rw [List.getElem?_set_ne z] at e'
      rw [List.getElem?_set_ne z]
      exact up (h.sl j sv e')
  mlen := by simp [h.mlen]
  inj := fun i j q hi hj => by
    have last : ∀ {i : Nat} {q : Addr}, (ps ++ [p])[i]? = some q → (ps[i]? = some q ∧ i < ps.length) ∨ (q = p ∧ i = ps.length) := fun {i q} hi => by
      by_cases l : i < ps.length
      · rw [List.getElem?_append_left l] at hi
        exact .inl ⟨hi, l⟩
      · rw [List.getElem?_append_right (by omega)] at hi
        have l2 : i - ps.length = 0 := by
          cases q2 : i - ps.length with
          | zero => rfl
          | succ n => rw [q2] at hi; simp at hi
        rw [l2] at hi
        exact .inr ⟨(Option.some.inj hi).symm, by omega⟩
    rcases last hi with ⟨a, a'⟩ | ⟨a, a'⟩ <;> rcases last hj with ⟨b, b'⟩ | ⟨b, b'⟩
    · exact h.inj i j q a b
    · subst b; exact absurd (List.mem_of_getElem? a) hn
    · subst a; exact absurd (List.mem_of_getElem? b) hn
    · omega
  pre := fun i q hq => by
    have z := h.pre i q hq
    rw [List.getElem?_append_left (List.getElem?_eq_some_iff.mp z).1]
    exact z
  new := fun q hq => by
    rcases List.mem_append.mp hq with z | z
    · exact h.new q z
    · have e : q = p := by simpa using z
      subst e
      exact ⟨h0, by rw [hp]; exact fun z => nomatch z⟩
  mu := fun k q es hk hm => by
    by_cases l : k < ps.length
    · rw [List.getElem?_append_left l] at hk
      have hm' : (A.μ ++ [some ds])[k]? = some (some es) := hm
      rw [List.getElem?_append_left (by rw [← h.mlen]; exact l)] at hm'
      exact h.mu k q es hk hm'
    · rw [List.getElem?_append_right (by omega)] at hk
      have hm' : (A.μ ++ [some ds])[k]? = some (some es) := hm
      rw [List.getElem?_append_right (by rw [← h.mlen]; omega)] at hm'
      have l2 : k - ps.length = 0 := by
        cases q2 : k - ps.length with
        | zero => rfl
        | succ n => rw [q2] at hk; simp at hk
      rw [← h.mlen, l2] at hm'
      rw [l2] at hk
      have e1 : p = q := Option.some.inj hk
      have e2 : ds = es := Option.some.inj (Option.some.inj hm')
      subst e1; subst e2
      exact ⟨hg, xs, hp, r⟩
/-- a list of one's own changes -/
theorem St.chg {k : Nat} {p : Addr} {ys : List V} {es : List PyData} {ds : List PyData} (h : St K c A G ps σ H) (hk : ps[k]? = some p) (hm : A.μ[k]? = some (some ds)) (r : DpAll K G ys es) :
    St K c ⟨A.ρ, A.μ.set k (some es)⟩ G ps σ (upd H p (.lst ys)) where
  st := h.st.mut (h.new p (List.mem_of_getElem? hk)).1 (h.mu k p ds hk hm).1
  len := h.len
  sl := h.sl
  mlen := by rw [List.length_set]; exact h.mlen
  inj := h.inj
  pre := h.pre
  new := fun q hq => ⟨(h.new q hq).1, by
    by_cases z : q = p
    · subst z; rw [upd_same]; exact fun z => nomatch z
    · rw [upd_ne z]; exact (h.new q hq).2⟩
  mu := fun j q fs hj hmj => by
    by_cases z : k = j
    · subst z
      rw [hk] at hj
      have e : p = q := Option.some.inj hj
      subst e
      have hl : k < A.μ.length := (List.getElem?_eq_some_iff.mp hm).1
      have hmj' : (A.μ.set k (some es))[k]? = some (some fs) := hmj
      rw [List.getElem?_set_self hl] at hmj'
      have e2 : es = fs := Option.some.inj (Option.some.inj hmj')
      subst e2
      exact ⟨(h.mu k p ds hk hm).1, ys, upd_same, r⟩
    · have hmj' : (A.μ.set k (some es))[j]? = some (some fs) := hmj
      rw [List.getElem?_set_ne z] at hmj'
      obtain ⟨g, xs, hx, hd⟩ := h.mu j q fs hj hmj'
      refine ⟨g, xs, ?_, hd⟩
      rw [upd_ne (fun w => z (h.inj k j p hk (by rw [← w]; exact hj)))]
      exact hx
/-- a list of one's own stands still from now on: its slots hold data -/
def thawed (k : Nat) (d : PyData) : SV → SV
  | .own j => if j = k then .dat d else .own j
  | sv => sv
def AS.freeze (A : AS) (k : Nat) (ds : List PyData) : AS := ⟨A.ρ.map (thawed k (.list ds)), A.μ.set k none⟩
theorem St.freeze {k : Nat} {ds : List PyData} (h : St K c A G ps σ H) (hm : A.μ[k]? = some (some ds)) : ∃ G', Ex G G' ∧ St K c (A.freeze k ds) G' ps σ H := by
  have hl : k < A.μ.length := (List.getElem?_eq_some_iff.mp hm).1
  have hk : ps[k]? = some (ps[k]'(by rw [h.mlen]; exact hl)) := List.getElem?_eq_getElem _
  generalize ps[k]'(by rw [h.mlen]; exact hl) = p at hk
  obtain ⟨g, xs, hx, hd⟩ := h.mu k p ds hk hm
  have hn := h.new p (List.mem_of_getElem? hk)
  have e : Ex G (upd G p (.lst xs)) := Ex.new g
  refine ⟨upd G p (.lst xs), e, ?_, ?_, ?_, ?_, h.inj, h.pre, h.new, ?_⟩
  · exact h.st.frz hn.1 g hx
  · show σ.length = (A.ρ.map _).length
    rw [List.length_map]; exact h.len
  · intro i sv ei
    have ei' : (A.ρ.map (thawed k (.list ds)))[i]? = some sv := ei
    rw [List.getElem?_map] at ei'
    cases q : A.ρ[i]? with
    | none => rw [q] at ei'; cases ei'
    | some s0 =>
      rw [q] at ei'
      have e2 : thawed k (.list ds) s0 = sv := Option.some.inj ei'
      subst e2
      have old := (h.sl i s0 q).up e
      cases s0 with
      | dat d => exact old
      | pool => exact old
      | any => exact old
      | own j =>
        show SlotOk K c.pa _ ps σ[i]? (if j = k then .dat (.list ds) else .own j)
        by_cases z : j = k
        · subst z
          rw [if_pos rfl]
          obtain ⟨p', h1, h2⟩ := old
          rw [hk] at h1
          have e3 : p = p' := Option.some.inj h1
          subst e3
          exact ⟨.ref p, h2, .lst (.inl (.inl upd_same)) (dp_upAll e ds hd)⟩
        · rw [if_neg z]
          exact old
  · show ps.length = (A.μ.set k none).length
    rw [List.length_set]; exact h.mlen
  · intro j q fs hj hmj
    have hmj' : (A.μ.set k none)[j]? = some (some fs) := hmj
    by_cases z : k = j
    · subst z
      rw [List.getElem?_set_self hl] at hmj'
      cases hmj'
    · rw [List.getElem?_set_ne z] at hmj'
      obtain ⟨g', ys, hy, hd'⟩ := h.mu j q fs hj hmj'
      refine ⟨?_, ys, hy, dp_upAll e fs hd'⟩
      rw [upd_ne (fun w => z (h.inj k j p hk (by rw [← w]; exact hj)))]
      exact g'
theorem ROk.up {v : V} {r : RV} {pa : Option Addr} {K : PySem.W.Frag} (h : ROk K G1 H H1 v r) (h0 : ∀ a, pa = some a → H a ≠ none) (s : Stp K pa G1 H1 G2 H2) : ROk K G2 H H2 v r := by
  cases r with
  | D d => exact dp_up s.ex d h
  | L ds =>
    obtain ⟨p, xs, h1, h2, h3, h4, h5⟩ := h
    exact ⟨p, xs, h1, h2, s.fr p (by rw [h4]; exact fun z => nomatch z) h3, s.keep p _ (fun z => h0 p z h2) h4, dp_upAll s.ex ds h5⟩
end
end Eng

set_option Elab.async false
set_option linter.all false
set_option maxRecDepth 100000
set_option maxHeartbeats 2000000
namespace Eng
open PySem PySem.Spec PyProof.Rows L2
open Evl (Ex)

structure ADs where
  nx : AS → Prop
  rt : RV → AS → Prop
  bk : AS → Prop := fun _ => False
  ct : AS → Prop := fun _ => False
def nxt (K : PySem.W.Frag) (c : Ct) (G : Hp) (P : AS → Prop) : L2.St → Hp → Prop := fun σ H => ∃ A G' ps, Ex G G' ∧ St K c A G' ps σ H ∧ P A
def retd (K : PySem.W.Frag) (c : Ct) (P : RV → AS → Prop) : VK := fun v H => ∃ r A G ps σ, St K c A G ps σ H ∧ ROk K G c.H0 H v r ∧ P r A
def ends (K : PySem.W.Frag) (c : Ct) (G : Hp) (D : ADs) : Ends := ⟨nxt K c G D.nx, retd K c D.rt, nxt K c G D.bk, nxt K c G D.ct⟩

inductive AV where
  | dat (d : PyData) | pool
def AOk (K : PySem.W.Frag) (pa : Option Addr) (G : Hp) (v : V) : AV → Prop
  | .dat d => Dp K G v d
  | .pool => ∃ a, pa = some a ∧ v = .ref a
def AsOk (K : PySem.W.Frag) (pa : Option Addr) (G : Hp) : List V → List AV → Prop
  | [], [] => True
  | v :: vs, a :: as => AOk K pa G v a ∧ AsOk K pa G vs as
  | _, _ => False
section
variable {K : PySem.W.Frag} {pa : Option Addr} {G G' : Hp}
theorem AOk.up {v : V} {a : AV} (e : Ex G G') (h : AOk K pa G v a) : AOk K pa G' v a := by
  cases a with
  | dat d => exact dp_up e d h
  | pool => exact h
theorem AsOk.up (e : Ex G G') : ∀ {vs : List V} {as : List AV}, AsOk K pa G vs as → AsOk K pa G' vs as
  | [], [], _ => True.intro
  | _ :: _, _ :: _, ⟨h, t⟩ => ⟨h.up e, AsOk.up e t⟩
theorem AsOk.len : ∀ {vs : List V} {as : List AV}, AsOk K pa G vs as → vs.length = as.length
  | [], [], _ => rfl
  | _ :: _, _ :: _, ⟨_, t⟩ => congrArg (· + 1) (AsOk.len t)
end

def WE (X : Cx) (c : Ct) (e : Expr) (A : AS) (Q : PyData → Prop) : Prop := ∀ G ps σ H, St X.K c A G ps σ H → wE X e σ H fun v H' => ∃ G' d, Stp X.K c.pa G H G' H' ∧ Dp X.K G' v d ∧ Q d
def WL (X : Cx) (c : Ct) (e : Expr) (A : AS) (Q : List PyData → Prop) : Prop := ∀ G ps σ H, St X.K c A G ps σ H → wE X e σ H fun v H' => ∃ G' ds, Stp X.K c.pa G H G' H' ∧ ROk X.K G' H H' v (.L ds) ∧ Q ds
def WT (X : Cx) (c : Ct) (e : Expr) (A : AS) (Q : Bool → Prop) : Prop := ∀ G ps σ H, St X.K c A G ps σ H → wT X e σ H fun b H' => ∃ G', Stp X.K c.pa G H G' H' ∧ Q b
def WA (X : Cx) (c : Ct) (es : List Expr) (A : AS) (Q : List AV → Prop) : Prop := ∀ G ps σ H, St X.K c A G ps σ H → wA X es σ H fun vs H' => ∃ G' as, Stp X.K c.pa G H G' H' ∧ AsOk X.K c.pa G' vs as ∧ Q as
def WS (X : Cx) (c : Ct) (st : Stmt) (A : AS) (D : ADs) : Prop := ∀ G ps σ H, St X.K c A G ps σ H → wS X st (ends X.K c G D) σ H
def WB (X : Cx) (c : Ct) (sts : List Stmt) (A : AS) (D : ADs) : Prop := ∀ G ps σ H, St X.K c A G ps σ H → wB X sts (ends X.K c G D) σ H

section
variable {X : Cx} {c : Ct} {A : AS} {e a b : Expr} {es : List Expr} {pos : Pos} {Q : PyData → Prop}

theorem we_imp {Q' : PyData → Prop} (h : WE X c e A Q) (k : ∀ d, Q d → Q' d) : WE X c e A Q' := fun G ps σ H S =>
  wE_mono (h G ps σ H S) fun _ _ ⟨G', d, s, r, q⟩ => ⟨G', d, s, r, k d q⟩
/-! ### names, constants -/
theorem we_name {i : Nat} {x : Str} {d : PyData} (hρ : A.ρ[i]? = some (.dat d)) (q : Q d) (hN : X.N[i]? = some x := by rfl) (hv : Vis X.env.scope x := by first | exact Or.inl rfl | exact Or.inr (Or.inl rfl) | exact Or.inr (Or.inr rfl))
    (hd : (x == ("__debug__" : Str)) = false := by decide) (hcd : (x == ("__classdict__" : Str)) = false := by decide) : WE X c (.Name x pos) A Q := fun G ps σ H S => by
  obtain ⟨v, h1, h2⟩ := S.sl i _ hρ
  exact wE_of (pe_var hN hv hd hcd) ⟨v, h1, G, d, S.refl, h2, q⟩
theorem we_int {i : Int} {j} (q : Q (.int i)) : WE X c (.Constant (.int i) j pos) A Q := fun G _ _ _ S => wE_of pe_int ⟨G, _, S.refl, .int i, q⟩
theorem we_str {i : Str} {j} (q : Q (.str i)) : WE X c (.Constant (.str i) j pos) A Q := fun G _ _ _ S => wE_of pe_str ⟨G, _, S.refl, .str i, q⟩
theorem we_bool {i : Bool} {j} (q : Q (.bool i)) : WE X c (.Constant (.bool i) j pos) A Q := fun G _ _ _ S => wE_of pe_bl ⟨G, _, S.refl, .bl i, q⟩
theorem we_none {j} (q : Q .none) : WE X c (.Constant .none j pos) A Q := fun G _ _ _ S => wE_of pe_non ⟨G, _, S.refl, .non, q⟩
/-- a constant of the module -/
structure Gc (K : PySem.W.Frag) (mg : Str → Option Value) (x : Str) (d : PyData) : Prop where
  ex : ∃ v u, mg x = some u ∧ RelV v u ∧ ∀ G, Dp K G v d
theorem we_glob {x : Str} {d : PyData} (g : Gc X.K X.mg x d) (q : Q d) (hg : Gl X x := by rfl) (hd : (x == ("__debug__" : Str)) = false := by decide) : WE X c (.Name x pos) A Q := fun G _ _ _ S => by
  obtain ⟨v, u, h1, h2, h3⟩ := g.ex
  exact wE_of (pe_glob hg h1 h2 hd) ⟨G, d, S.refl, h3 G, q⟩

/-! ### operators by data -/
def OpD (X : Cx) (c : Ct) (f : Value → Value → Sem Value) (d1 d2 : PyData) (Q : PyData → Prop) : Prop := ∃ r : R2, OpR X f r ∧
  ∀ Gs Hs G H v1 v2, Stp X.K c.pa Gs Hs G H → Dp X.K G v1 d1 → Dp X.K G v2 d2 → r v1 v2 H fun v H' => ∃ G' d, Stp X.K c.pa G H G' H' ∧ Dp X.K G' v d ∧ Q d
theorem bin2 {R : V → V → Hp → Prop} {σ : L2.St} {G H : Hp} {ps : List Addr} (S : St X.K c A G ps σ H) (h : WE X c a A fun d1 => WE X c b A fun d2 => ∀ Gs Hs G' H' v1 v2, Stp X.K c.pa Gs Hs G' H' → Stp X.K c.pa G H G' H' → Dp X.K G' v1 d1 → Dp X.K G' v2 d2 → R v1 v2 H') :
    wE X a σ H fun x H1 => wE X b σ H1 fun y H2 => R x y H2 :=
  wE_mono (h G ps σ H S) fun v1 H1 ⟨G1, d1, s1, r1, q1⟩ => wE_mono (q1 G1 ps σ H1 (S.step s1)) fun v2 H2 ⟨G2, d2, s2, r2, q2⟩ => q2 G1 H1 G2 H2 v1 v2 s2 (s1.trans s2) (dp_up s2.ex d1 r1) r2
theorem we_bin {op : Operator} (h : WE X c a A fun d1 => WE X c b A fun d2 => OpD X c (binaryOp op) d1 d2 Q) : WE X c (.BinOp a op b pos) A Q := fun G ps σ H S pins s I =>
  wpAny_BinOp (binT (R := fun v1 v2 H' => ∃ G' d1 d2, Stp X.K c.pa G H G' H' ∧ Dp X.K G' v1 d1 ∧ Dp X.K G' v2 d2 ∧ OpD X c (binaryOp op) d1 d2 Q) pe_w pe_w I
    (wE_mono (h G ps σ H S) fun v1 H1 ⟨G1, d1, s1, r1, q1⟩ => wE_mono (q1 G1 ps σ H1 (S.step s1)) fun v2 H2 ⟨G2, d2, s2, r2, q2⟩ => ⟨G2, d1, d2, s1.trans s2, dp_up s2.ex d1 r1, r2, q2⟩)
    fun v u s2 x y H2 I2 rx ry ⟨G2, d1, d2, st, z1, z2, r, ho, q⟩ => thn (ho pins s2 σ H2 x y v u _ I2 rx ry (q G H G2 H2 x y st z1 z2)) fun _ _ ⟨v', H', I', r', G', d, st', dd, qq⟩ => ⟨v', H', I', r', G', d, st.trans st', dd, qq⟩)
theorem we_cmp {op : CmpOp} (h : WE X c a A fun d1 => WE X c b A fun d2 => OpD X c (compareOp op) d1 d2 Q) (hm : behindInMarks op b = false := by first | exact nomark _ | with_unfolding_all rfl) : WE X c (.Compare a [op] [b] pos) A Q := fun G ps σ H S pins s I =>
  wpAny_Compare1 (binT (R := fun v1 v2 H' => ∃ G' d1 d2, Stp X.K c.pa G H G' H' ∧ Dp X.K G' v1 d1 ∧ Dp X.K G' v2 d2 ∧ OpD X c (compareOp op) d1 d2 Q) pe_w pe_w I
    (wE_mono (h G ps σ H S) fun v1 H1 ⟨G1, d1, s1, r1, q1⟩ => wE_mono (q1 G1 ps σ H1 (S.step s1)) fun v2 H2 ⟨G2, d2, s2, r2, q2⟩ => ⟨G2, d1, d2, s1.trans s2, dp_up s2.ex d1 r1, r2, q2⟩)
    fun v u s2 x y H2 I2 rx ry ⟨G2, d1, d2, st, z1, z2, r, ho, q⟩ => thn (ho pins s2 σ H2 x y v u _ I2 rx ry (q G H G2 H2 x y st z1 z2)) fun _ _ ⟨v', H', I', r', G', d, st', dd, qq⟩ => ⟨v', H', I', r', G', d, st.trans st', dd, qq⟩) hm
theorem wt_cmp {op : CmpOp} {Q : Bool → Prop} (h : WE X c a A fun d1 => WE X c b A fun d2 => OpD X c (compareOp op) d1 d2 fun d => ∃ k, d = .bool k ∧ Q k) (hm : behindInMarks op b = false := by first | exact nomark _ | with_unfolding_all rfl) : WT X c (.Compare a [op] [b] pos) A Q := fun G ps σ H S pins s I => by
  refine wpAny_isTrue_Compare1 (thn (h G ps σ H S pins s I) fun v1 s1 ⟨x, H1, I1, rx, G1, d1, st1, z1, q1⟩ => thn (q1 G1 ps σ H1 (S.step st1) pins s1 I1) fun v2 s2 ⟨y, H2, I2, ry, G2, d2, st2, z2, r, ho, q2⟩ =>
    thn (ho pins s2 σ H2 x y v1 v2 _ I2 rx ry (q2 G1 H1 G2 H2 x y st2 (dp_up st2.ex d1 z1) z2)) fun w s3 ⟨z, H3, I3, r3, G3, d3, st3, z3, k, e3, q3⟩ => ?_) hm
  subst e3
  cases z3
  cases r3
  exact wpAny_truthy_bool ⟨H3, I3, G3, (st1.trans st2).trans st3, q3⟩
theorem od_I {f : Value → Value → Sem Value} {C : Int → Int → Prop} {g : Int → Int → Int} {i j : Int} (h : OpR X f (rI C fun i j => .int (g i j))) (hc : C i j) (q : Q (.int (g i j))) : OpD X c f (.int i) (.int j) Q :=
  ⟨_, h, fun _ _ G H v1 v2 s h1 h2 => ⟨i, j, dp_int h1, dp_int h2, hc, G, _, s.refl, .int _, q⟩⟩
theorem od_I0 {f : Value → Value → Sem Value} {g : Int → Int → Int} {i j : Int} (h : OpR X f (rI0 fun i j => .int (g i j))) (q : Q (.int (g i j))) : OpD X c f (.int i) (.int j) Q :=
  ⟨_, h, fun _ _ G H v1 v2 s h1 h2 => ⟨i, j, dp_int h1, dp_int h2, G, _, s.refl, .int _, q⟩⟩
theorem od_B0 {f : Value → Value → Sem Value} {g : Int → Int → Bool} {i j : Int} (h : OpR X f (rI0 fun i j => .bl (g i j))) (q : Q (.bool (g i j))) : OpD X c f (.int i) (.int j) Q :=
  ⟨_, h, fun _ _ G H v1 v2 s h1 h2 => ⟨i, j, dp_int h1, dp_int h2, G, _, s.refl, .bl _, q⟩⟩
variable {i j : Int}
theorem od_add (q : Q (.int (i + j))) : OpD X c (binaryOp .Add) (.int i) (.int j) Q := od_I0 op_add q
theorem od_sub (q : Q (.int (i - j))) : OpD X c (binaryOp .Sub) (.int i) (.int j) Q := od_I0 op_sub q
theorem od_mul (hc : CMul i j) (q : Q (.int (i * j))) : OpD X c (binaryOp .Mult) (.int i) (.int j) Q := od_I op_mul hc q
theorem od_mod (hc : 0 < j) (q : Q (.int (i % j))) : OpD X c (binaryOp .Mod) (.int i) (.int j) Q := od_I op_mod hc q
theorem od_div (hc : 0 < j ∧ j.natAbs.log2 < 9000) (q : Q (.int (i / j))) : OpD X c (binaryOp .FloorDiv) (.int i) (.int j) Q := od_I op_fdivW hc q
theorem od_shr (hc : 0 ≤ j) (q : Q (.int (i / 2 ^ j.toNat))) : OpD X c (binaryOp .RShift) (.int i) (.int j) Q := od_I op_shr hc q
theorem od_shl (hc : CShl i j) (q : Q (.int (i * 2 ^ j.toNat))) : OpD X c (binaryOp .LShift) (.int i) (.int j) Q := od_I op_shlW hc q
theorem od_and (q : Q (.int (Builtin.bitAnd i j))) : OpD X c (binaryOp .BitAnd) (.int i) (.int j) Q := od_I0 op_and q
theorem od_or (q : Q (.int (Builtin.bitOr i j))) : OpD X c (binaryOp .BitOr) (.int i) (.int j) Q := od_I0 op_or q
theorem od_xor (q : Q (.int (Builtin.bitXor i j))) : OpD X c (binaryOp .BitXor) (.int i) (.int j) Q := od_I0 op_xor q
theorem od_lt (q : Q (.bool (decide (i < j)))) : OpD X c (compareOp .Lt) (.int i) (.int j) Q := od_B0 op_lt q
theorem od_le (q : Q (.bool (decide (i ≤ j)))) : OpD X c (compareOp .LtE) (.int i) (.int j) Q := od_B0 op_le q
theorem od_gt (q : Q (.bool (decide (j < i)))) : OpD X c (compareOp .Gt) (.int i) (.int j) Q := od_B0 op_gt q
theorem od_ge (q : Q (.bool (decide (j ≤ i)))) : OpD X c (compareOp .GtE) (.int i) (.int j) Q := od_B0 op_ge q
theorem od_eqI (q : Q (.bool (decide (i = j)))) : OpD X c (compareOp .Eq) (.int i) (.int j) Q :=
  ⟨_, op_eq, fun _ _ G H v1 v2 s h1 h2 => by cases h1; cases h2; exact ⟨rfl, G, _, s.refl, .bl _, by rw [dec_int, Bool.beq_eq_decide_eq]; exact q⟩⟩
theorem od_neI (q : Q (.bool (!decide (i = j)))) : OpD X c (compareOp .NotEq) (.int i) (.int j) Q :=
  ⟨_, op_ne, fun _ _ G H v1 v2 s h1 h2 => by cases h1; cases h2; exact ⟨rfl, G, _, s.refl, .bl _, by rw [dec_int, Bool.beq_eq_decide_eq]; exact q⟩⟩
theorem od_eqS {i j : Str} (q : Q (.bool (decide (i = j)))) : OpD X c (compareOp .Eq) (.str i) (.str j) Q :=
  ⟨_, op_eq, fun _ _ G H v1 v2 s h1 h2 => by cases h1; cases h2; exact ⟨rfl, G, _, s.refl, .bl _, by rw [dec_str, Bool.beq_eq_decide_eq]; exact q⟩⟩
theorem od_neS {i j : Str} (q : Q (.bool (!decide (i = j)))) : OpD X c (compareOp .NotEq) (.str i) (.str j) Q :=
  ⟨_, op_ne, fun _ _ G H v1 v2 s h1 h2 => by cases h1; cases h2; exact ⟨rfl, G, _, s.refl, .bl _, by rw [dec_str, Bool.beq_eq_decide_eq]; exact q⟩⟩
theorem od_eqB {i j : Bool} (q : Q (.bool (decide (i = j)))) : OpD X c (compareOp .Eq) (.bool i) (.bool j) Q :=
  ⟨_, op_eq, fun _ _ G H v1 v2 s h1 h2 => by cases h1; cases h2; exact ⟨rfl, G, _, s.refl, .bl _, by rw [dec_bl, Bool.beq_eq_decide_eq]; exact q⟩⟩
theorem od_neB {i j : Bool} (q : Q (.bool (!decide (i = j)))) : OpD X c (compareOp .NotEq) (.bool i) (.bool j) Q :=
  ⟨_, op_ne, fun _ _ G H v1 v2 s h1 h2 => by cases h1; cases h2; exact ⟨rfl, G, _, s.refl, .bl _, by rw [dec_bl, Bool.beq_eq_decide_eq]; exact q⟩⟩
/-- data of any depth -/
theorem od_eqD {d1 d2 : PyData} (hu : X.A.units + 64 < cLine) (s1 : SeqAt.shaped d1 = true) (s2 : SeqAt.shaped d2 = true) (q : Q (.bool (PyData.eqv d1 d2))) : OpD X c (compareOp .Eq) d1 d2 Q :=
  ⟨_, op_eqD hu, fun _ _ G H v1 v2 s h1 h2 => ⟨d1, d2, C.mono s h1, C.mono s h2, s1, s2, G, _, s.refl, .bl _, q⟩⟩
where C.mono {G H Gs Hs : Hp} {v : V} {d : PyData} (s : Stp X.K c.pa Gs Hs G H) (h : Dp X.K G v d) : Dp X.K H v d := dp_up s.sub d h
def isNon : PyData → Bool
  | .none => true
  | _ => false
theorem od_isN {d : PyData} (q : Q (.bool (isNon d))) : OpD X c (compareOp .Is) d .none Q :=
  ⟨_, op_isN, fun _ _ G H v1 v2 s h1 h2 => ⟨dp_non h2, G, _, s.refl, .bl _, by
    have e : decide (v1 = V.non) = isNon d := by
      cases h1 <;> simp [isNon]
    rw [e]; exact q⟩⟩
/-! ### one place, truth, and, or, not -/
def UnD (X : Cx) (c : Ct) (f : Value → Sem Value) (d1 : PyData) (Q : PyData → Prop) : Prop := ∃ r, UnR X f r ∧
  ∀ Gs Hs G H v1, Stp X.K c.pa Gs Hs G H → Dp X.K G v1 d1 → r v1 H fun v H' => ∃ G' d, Stp X.K c.pa G H G' H' ∧ Dp X.K G' v d ∧ Q d
theorem we_un {op : UnaryOp} (h : WE X c a A fun d1 => UnD X c (unaryOp op) d1 Q) : WE X c (.UnaryOp op a pos) A Q := fun G ps σ H S pins s I =>
  UnaryOp_ (thn (h G ps σ H S pins s I) fun v s1 ⟨x, H1, I1, r1, G1, d1, st1, z1, r, ho, q⟩ => thn (ho pins s1 σ H1 x v _ I1 r1 (q G H G1 H1 x st1 z1)) fun _ _ ⟨v', H', I', r', G', d, st', dd, qq⟩ => ⟨v', H', I', r', G', d, st1.trans st', dd, qq⟩)
theorem ud_neg (q : Q (.int (-i))) : UnD X c (unaryOp .USub) (.int i) Q := ⟨_, un_neg, fun _ _ G H v1 s h1 => ⟨i, dp_int h1, G, _, s.refl, .int _, q⟩⟩
theorem we_not (h : WE X c a A fun d => ∃ k, d = .bool k ∧ Q (.bool (!k))) : WE X c (.UnaryOp .Not a pos) A Q := fun G ps σ H S =>
  wE_of (pe_not pe_w) (wE_mono (h G ps σ H S) fun v H' ⟨G', d, s, r, k, e, q⟩ => by subst e; exact ⟨k, dp_bl r, G', _, s, .bl _, q⟩)
/-- a value's truth -/
def truD : PyData → Option Bool
  | .none => some false
  | .bool b => some b
  | .int i => some (i != 0)
  | .list ds => some (!ds.isEmpty)
  | .tuple ds => some (!ds.isEmpty)
  | _ => none
theorem tru_of {K : PySem.W.Frag} {G H : Hp} {v : V} {d : PyData} {k : Bool} (s : Ex G H) (h : Dp K G v d) (t : truD d = some k) : TruV K v H k := by
  have emp : ∀ {xs : List V} {ds : List PyData}, DpAll K G xs ds → xs.isEmpty = ds.isEmpty := fun h => by cases h <;> rfl
  cases h with
  | non => exact (Option.some.inj t).symm
  | bl b => exact (Option.some.inj t).symm
  | int i => exact (Option.some.inj t).symm
  | str x => cases t
  | lst a b => exact .inl ⟨_, Evl.ex_l s a, by rw [emp b]; exact (Option.some.inj t).symm⟩
  | tup a b => exact .inr (.inl ⟨_, Evl.ex_t s a, by rw [emp b]; exact (Option.some.inj t).symm⟩)
theorem wt_val {Q : Bool → Prop} (h : WE X c a A fun d => ∃ k, truD d = some k ∧ Q k) (he : ∀ whole, isTrue a X.env whole = (do let v ← whole; standAt a.pos; holding [v] (truthy v)) := by intro _; rfl) : WT X c a A Q := fun G ps σ H S =>
  wT_of (pt_truth pe_w he) (wE_mono (h G ps σ H S) fun v H' ⟨G', d, s, r, k, e, q⟩ => ⟨k, tru_of s.sub r e, G', s, q⟩)
def wW (X : Cx) (e : Expr) : TT := fun σ H Q => ∀ (whole : Sem Value) pins s, Inv X pins σ H s → wpAny (model X.prog X.w) X.A (isTrue e X.env whole) (TP X pins σ Q) X.xe s
def WW (X : Cx) (c : Ct) (e : Expr) (A : AS) (Q : Bool → Prop) : Prop := ∀ G ps σ H, St X.K c A G ps σ H → wW X e σ H fun b H' => ∃ G', Stp X.K c.pa G H G' H' ∧ Q b
theorem pw_w : PW X e (wW X e) := ⟨fun wh pins s _ _ _ I h => h wh pins s I⟩
theorem wW_of {tt : TT} {σ : L2.St} {H : Hp} {Q : Bool → Hp → Prop} (h : PW X e tt) (q : tt σ H Q) : wW X e σ H Q := fun wh pins s I => h.run wh pins s σ H Q I q
theorem wW_mono {σ : L2.St} {H : Hp} {Q Q' : Bool → Hp → Prop} (h : wW X e σ H Q) (k : ∀ v H', Q v H' → Q' v H') : wW X e σ H Q' := fun wh pins s I =>
  thn (h wh pins s I) fun u s' ⟨H', I', q⟩ => ⟨H', I', k _ H' q⟩
theorem wt_ww {Q : Bool → Prop} (h : WW X c e A Q) : WT X c e A Q := fun G ps σ H S => wT_of (PW.pt pw_w) (h G ps σ H S)
theorem ww_and1 {Q : Bool → Prop} (h : WT X c a A Q) : WW X c (.BoolOp .And [a] pos) A Q := fun G ps σ H S => wW_of (pw_and1 pt_w) (h G ps σ H S)
theorem ww_or1 {Q : Bool → Prop} (h : WT X c a A Q) : WW X c (.BoolOp .Or [a] pos) A Q := fun G ps σ H S => wW_of (pw_or1 pt_w) (h G ps σ H S)
theorem ww_and {Q : Bool → Prop} {rest : List Expr} (h : WT X c a A fun k => (k = true → WW X c (.BoolOp .And (b :: rest) pos) A Q) ∧ (k = false → Q false)) : WW X c (.BoolOp .And (a :: b :: rest) pos) A Q := fun G ps σ H S =>
  wW_of (pw_and pt_w pw_w) (wT_mono (h G ps σ H S) fun k H' ⟨G', s, q1, q2⟩ => by
    cases k with
    | true => exact iteT (wW_mono (q1 rfl G' ps σ H' (S.step s)) fun _ _ ⟨G2, s2, q⟩ => ⟨G2, s.trans s2, q⟩)
    | false => exact iteF ⟨G', s, q2 rfl⟩)
theorem ww_or {Q : Bool → Prop} {rest : List Expr} (h : WT X c a A fun k => (k = true → Q true) ∧ (k = false → WW X c (.BoolOp .Or (b :: rest) pos) A Q)) : WW X c (.BoolOp .Or (a :: b :: rest) pos) A Q := fun G ps σ H S =>
  wW_of (pw_or pt_w pw_w) (wT_mono (h G ps σ H S) fun k H' ⟨G', s, q1, q2⟩ => by
    cases k with
    | false => exact iteF (wW_mono (q2 rfl G' ps σ H' (S.step s)) fun _ _ ⟨G2, s2, q⟩ => ⟨G2, s.trans s2, q⟩)
    | true => exact iteT ⟨G', s, q1 rfl⟩)
theorem wt_not {Q : Bool → Prop} (h : WT X c a A fun k => Q (!k)) : WT X c (.UnaryOp .Not a pos) A Q := fun G ps σ H S =>
  wT_of (pt_not pt_w) (wT_mono (h G ps σ H S) fun k H' ⟨G', s, q⟩ => ⟨G', s, q⟩)
/-- and, or of bools as values -/
theorem we_and1 {op} (h : WE X c a A Q) : WE X c (.BoolOp op [a] pos) A Q := fun G ps σ H S => wE_of (pe_one pe_w) (h G ps σ H S)
theorem we_and {rest : List Expr} (h : WE X c a A fun d => ∃ k, d = .bool k ∧ (k = true → WE X c (.BoolOp .And (b :: rest) pos) A Q) ∧ (k = false → Q (.bool false))) : WE X c (.BoolOp .And (a :: b :: rest) pos) A Q := fun G ps σ H S =>
  wE_of (pe_and pe_w pe_w) (wE_mono (h G ps σ H S) fun v H' ⟨G', d, s, r, k, e, q1, q2⟩ => ⟨k, by subst e; exact dp_bl r, by
    cases k with
    | true => exact iteT (wE_mono (q1 rfl G' ps σ H' (S.step s)) fun _ _ ⟨G2, d2, s2, q⟩ => ⟨G2, d2, s.trans s2, q⟩)
    | false => exact iteF ⟨G', _, s, .bl _, q2 rfl⟩⟩)
theorem we_or {rest : List Expr} (h : WE X c a A fun d => ∃ k, d = .bool k ∧ (k = true → Q (.bool true)) ∧ (k = false → WE X c (.BoolOp .Or (b :: rest) pos) A Q)) : WE X c (.BoolOp .Or (a :: b :: rest) pos) A Q := fun G ps σ H S =>
  wE_of (pe_or pe_w pe_w) (wE_mono (h G ps σ H S) fun v H' ⟨G', d, s, r, k, e, q1, q2⟩ => ⟨k, by subst e; exact dp_bl r, by
    cases k with
    | false => exact iteF (wE_mono (q2 rfl G' ps σ H' (S.step s)) fun _ _ ⟨G2, d2, s2, q⟩ => ⟨G2, d2, s.trans s2, q⟩)
    | true => exact iteT ⟨G', _, s, .bl _, q1 rfl⟩⟩)
theorem we_ife {t : Expr} (h : WT X c t A fun k => (k = true → WE X c a A Q) ∧ (k = false → WE X c b A Q)) : WE X c (.IfExp t a b pos) A Q := fun G ps σ H S =>
  wE_of (pe_ifExp pt_w pe_w pe_w) (wT_mono (h G ps σ H S) fun k H' ⟨G', s, q1, q2⟩ => by
    cases k with
    | true => exact iteT (wE_mono (q1 rfl G' ps σ H' (S.step s)) fun _ _ ⟨G2, d2, s2, q⟩ => ⟨G2, d2, s.trans s2, q⟩)
    | false => exact iteF (wE_mono (q2 rfl G' ps σ H' (S.step s)) fun _ _ ⟨G2, d2, s2, q⟩ => ⟨G2, d2, s.trans s2, q⟩))

/-! ### subscripts -/
theorem at_ok {K : PySem.W.Frag} {G : Hp} {xs : List V} {ds : List PyData} {i : Int} {d : PyData} (ha : DpAll K G xs ds) (ea : atI ds i = some d) : ∃ w, atI xs i = some w ∧ Dp K G w d := by
  unfold atI at ea ⊢
  rw [dall_len ha]
  cases q : ixN ds.length i with
  | none => rw [q] at ea; cases ea
  | some j =>
    rw [q] at ea
    exact dall_get ha ea
theorem we_ixT (h : WE X c a A fun d1 => WE X c b A fun d2 => ∃ ds i d, d1 = .tuple ds ∧ d2 = .int i ∧ atI ds i = some d ∧ Q d) (hp : PlainIx b := by intro _ _; rfl) : WE X c (.Subscript a b pos) A Q := fun G ps σ H S =>
  wE_of (pe_ix ix_tup pe_w pe_w hp) (wE_mono (h G ps σ H S) fun v1 H1 ⟨G1, d1, s1, r1, q1⟩ => wE_mono (q1 G1 ps σ H1 (S.step s1)) fun v2 H2 ⟨G2, d2, s2, r2, ds, i, d, e1, e2, ea, q⟩ => by
    subst e1; subst e2
    obtain ⟨p, xs, rfl, hs, ha⟩ := dp_tup r1
    obtain ⟨w, hw, rw'⟩ := at_ok ha ea
    exact ⟨p, xs, i, w, rfl, dp_int r2, Evl.ex_t (fun b o z => s2.sub b o (s2.ex b o z)) hs, hw, G2, d, s1.trans s2, dp_up s2.ex d rw', q⟩)
theorem we_ixL (h : WE X c a A fun d1 => WE X c b A fun d2 => ∃ ds i d, d1 = .list ds ∧ d2 = .int i ∧ atI ds i = some d ∧ Q d) (hp : PlainIx b := by intro _ _; rfl) : WE X c (.Subscript a b pos) A Q := fun G ps σ H S =>
  wE_of (pe_ix ix_list pe_w pe_w hp) (wE_mono (h G ps σ H S) fun v1 H1 ⟨G1, d1, s1, r1, q1⟩ => wE_mono (q1 G1 ps σ H1 (S.step s1)) fun v2 H2 ⟨G2, d2, s2, r2, ds, i, d, e1, e2, ea, q⟩ => by
    subst e1; subst e2
    obtain ⟨p, xs, rfl, hs, ha⟩ := dp_list r1
    obtain ⟨w, hw, rw'⟩ := at_ok ha ea
    exact ⟨p, xs, i, w, rfl, dp_int r2, Evl.ex_l (fun b o z => s2.sub b o (s2.ex b o z)) hs, hw, G2, d, s1.trans s2, dp_up s2.ex d rw', q⟩)
theorem we_ixS (h : WE X c a A fun d1 => WE X c b A fun d2 => ∃ z i k, d1 = .str z ∧ d2 = .int i ∧ z.length ≤ 100000 ∧ atI z.cps.toList i = some k ∧ Q (.str ⟨#[k]⟩)) (hp : PlainIx b := by intro _ _; rfl) : WE X c (.Subscript a b pos) A Q := fun G ps σ H S =>
  wE_of (pe_ix ix_str pe_w pe_w hp) (wE_mono (h G ps σ H S) fun v1 H1 ⟨G1, d1, s1, r1, q1⟩ => wE_mono (q1 G1 ps σ H1 (S.step s1)) fun v2 H2 ⟨G2, d2, s2, r2, z, i, k, e1, e2, hz, ea, q⟩ => by
    subst e1; subst e2
    exact ⟨z, i, k, dp_str r1, dp_int r2, Evl.sz_of hz, ea, G2, _, s1.trans s2, .str _, q⟩)
/-- a subscript, whatever the kind -/
def IxD (d1 d2 : PyData) (Q : PyData → Prop) : Prop := match d1, d2 with
  | .tuple ds, .int i => ∃ d, atI ds i = some d ∧ Q d
  | .list ds, .int i => ∃ d, atI ds i = some d ∧ Q d
  | .str z, .int i => ∃ k, z.length ≤ 100000 ∧ atI z.cps.toList i = some k ∧ Q (.str ⟨#[k]⟩)
  | _, _ => False
theorem we_ix (h : WE X c a A fun d1 => WE X c b A fun d2 => IxD d1 d2 Q) (hp : PlainIx b := by intro _ _; rfl) : WE X c (.Subscript a b pos) A Q := fun G ps σ H S =>
  wE_of (pe_ix (IxR.or (IxR.or ix_list ix_tup) ix_str) pe_w pe_w hp) (wE_mono (h G ps σ H S) fun v1 H1 ⟨G1, d1, s1, r1, q1⟩ => wE_mono (q1 G1 ps σ H1 (S.step s1)) fun v2 H2 ⟨G2, d2, s2, r2, q⟩ => by
    have up : Ex G1 H2 := fun b o z => s2.sub b o (s2.ex b o z)
    cases d2 with
    | int i =>
      cases d1 with
      | list ds =>
        obtain ⟨d, ea, q⟩ := q
        obtain ⟨p, xs, rfl, hs, ha⟩ := dp_list r1
        obtain ⟨w, hw, rw'⟩ := at_ok ha ea
        exact .inl (.inl ⟨p, xs, i, w, rfl, dp_int r2, Evl.ex_l up hs, hw, G2, d, s1.trans s2, dp_up s2.ex d rw', q⟩)
      | tuple ds =>
        obtain ⟨d, ea, q⟩ := q
        obtain ⟨p, xs, rfl, hs, ha⟩ := dp_tup r1
        obtain ⟨w, hw, rw'⟩ := at_ok ha ea
        exact .inl (.inr ⟨p, xs, i, w, rfl, dp_int r2, Evl.ex_t up hs, hw, G2, d, s1.trans s2, dp_up s2.ex d rw', q⟩)
      | str z =>
        obtain ⟨k, hz, ea, q⟩ := q
        exact .inr ⟨z, i, k, dp_str r1, dp_int r2, Evl.sz_of hz, ea, G2, _, s1.trans s2, .str _, q⟩
      | _ => exact False.elim q
    | _ => cases d1 <;> exact False.elim q)

/-! ### arguments, displays -/
theorem wa_imp {Q Q' : List AV → Prop} (h : WA X c es A Q) (k : ∀ d, Q d → Q' d) : WA X c es A Q' := fun G ps σ H S =>
  wA_mono (h G ps σ H S) fun _ _ ⟨G', d, s, r, q⟩ => ⟨G', d, s, r, k d q⟩
theorem wa_nil {Q : List AV → Prop} (q : Q []) : WA X c [] A Q := fun G ps σ H S => wA_of pa_nil ⟨G, [], S.refl, True.intro, q⟩
theorem wa_cons {Q : List AV → Prop} (h : WE X c e A fun d => WA X c es A fun as => Q (.dat d :: as)) (hs : starEach (e :: es) X.env = (false, eval e X.env) :: starEach es X.env := by rfl) : WA X c (e :: es) A Q := fun G ps σ H S =>
  wA_of (pa_cons pe_w pa_w hs) (wE_mono (h G ps σ H S) fun v H1 ⟨G1, d, s1, r1, q1⟩ => wA_mono (q1 G1 ps σ H1 (S.step s1)) fun vs H2 ⟨G2, as, s2, r2, q⟩ => ⟨G2, .dat d :: as, s1.trans s2, ⟨dp_up s2.ex d r1, r2⟩, q⟩)
theorem wa_pool {Q : List AV → Prop} {x : Str} {i : Nat} (hρ : A.ρ[i]? = some .pool) (h : WA X c es A fun as => Q (.pool :: as)) (hN : X.N[i]? = some x := by rfl) (hv : Vis X.env.scope x := by first | exact Or.inl rfl | exact Or.inr (Or.inl rfl) | exact Or.inr (Or.inr rfl))
    (hd : (x == ("__debug__" : Str)) = false := by decide) (hcd : (x == ("__classdict__" : Str)) = false := by decide) (hs : starEach (.Name x pos :: es) X.env = (false, eval (.Name x pos) X.env) :: starEach es X.env := by rfl) : WA X c (.Name x pos :: es) A Q := fun G ps σ H S => by
  obtain ⟨p, h1, h2⟩ := S.sl i _ hρ
  exact wA_of (pa_cons (pe_var hN hv hd hcd) pa_w hs) ⟨.ref p, h2, wA_mono (h G ps σ H S) fun vs H2 ⟨G2, as, s2, r2, q⟩ => ⟨G2, .pool :: as, s2, ⟨⟨p, h1, rfl⟩, r2⟩, q⟩⟩
/-- the data among arguments -/
def dats : List AV → Option (List PyData)
  | [] => some []
  | .dat d :: as => match dats as with
    | some r => some (d :: r)
    | none => none
  | .pool :: _ => none
theorem dats_ok {K : PySem.W.Frag} {pa : Option Addr} {G : Hp} : ∀ {vs : List V} {as : List AV} {ds : List PyData}, AsOk K pa G vs as → dats as = some ds → DpAll K G vs ds
  | [], [], _, _, e => by
    have e' := Option.some.inj e
    subst e'
    exact .nil
  | v :: vs, .dat d :: as, ds, ⟨h, t⟩, e => by
    cases q : dats as with
    | none => rw [dats, q] at e; cases e
    | some r =>
      rw [dats, q] at e
      have e' := Option.some.inj e
      subst e'
      exact .cons h (dats_ok t q)
  | _ :: _, .pool :: _, _, _, e => by cases e
theorem we_tup {x1} (h : WA X c es A fun as => ∃ ds, dats as = some ds ∧ ds.length ≤ 100000 ∧ Q (.tuple ds)) : WE X c (.Tuple es x1 pos) A Q := fun G ps σ H S =>
  wE_of (pe_tup pa_w) (wA_mono (h G ps σ H S) fun vs H1 ⟨G1, as, s1, r1, ds, e, hz, q⟩ => ⟨by rw [dall_len (dats_ok r1 e)]; exact Evl.sz_of hz, fun p hp =>
    have n := s1.new (o := .tup vs) hp
    ⟨_, _, s1.trans n, .tup (.inl (.inl upd_same)) (dp_upAll n.ex _ (dats_ok r1 e)), q⟩⟩)
theorem wl_lst {Q : List PyData → Prop} (h : WA X c es A fun as => ∃ ds, dats as = some ds ∧ ds.length ≤ 100000 ∧ Q ds) : WL X c (.List es pos) A Q := fun G ps σ H S =>
  wE_of (pe_lst pa_w) (wA_mono (h G ps σ H S) fun vs H1 ⟨G1, as, s1, r1, ds, e, hz, q⟩ => ⟨by rw [dall_len (dats_ok r1 e)]; exact Evl.sz_of hz, fun p hp =>
    have n := s1.lay (o := .lst vs) hp
    have hg : G1 p = none := Evl.fresh_back s1.sub hp
    ⟨G1, ds, s1.trans n, ⟨p, vs, rfl, by
      cases q2 : H p with
      | none => rfl
      | some o => exact absurd hp (s1.live p (by rw [q2]; exact fun z => nomatch z)), hg, upd_same, dats_ok r1 e⟩, q⟩⟩)
/-- a new list that will not change -/
theorem we_of_wl (h : WL X c e A fun ds => Q (.list ds)) : WE X c e A Q := fun G ps σ H S =>
  wE_mono (h G ps σ H S) fun v H1 ⟨G1, ds, s1, ⟨p, xs, e1, h0, hg, h1, hd⟩, q⟩ => by
    subst e1
    have f := s1.frz h0 hg h1
    exact ⟨_, _, f, .lst (.inl (.inl upd_same)) (dp_upAll (Ex.new hg) _ hd), q⟩
end
end Eng

set_option Elab.async false
set_option linter.all false
set_option maxRecDepth 100000
set_option maxHeartbeats 2000000
namespace Eng
open PySem PySem.Spec PyProof.Rows L2
open Evl (Ex)
section
variable {X : Cx} {c : Ct} {A : AS} {e a b : Expr} {es : List Expr} {pos p : Pos} {Q : PyData → Prop}

/-! ### calls of built-ins and of methods, by data -/
def cW (X : Cx) (f : Value) : List V → Hp → VK → Prop := fun vs H Q => ∀ pins s σ us, Inv X pins σ H s → Vals vs us → wpAny (model X.prog X.w) X.A (call f us) (EP X pins σ Q) X.xe s
theorem cW_ok {f : Value} : CallR X f (cW X f) := fun pins s σ _ _ us _ I r h => h pins s σ us I r
def mW (X : Cx) (id : String) : V → List V → Hp → VK → Prop := fun x vs H Q => ∀ pins s σ v us, Inv X pins σ H s → RelV x v → Vals vs us → wpAny (model X.prog X.w) X.A (call (.builtin id) (v :: us)) (EP X pins σ Q) X.xe s
theorem mW_ok {id : String} : MtR X id (mW X id) := fun pins s σ _ _ _ v us _ I rx r h => h pins s σ v us I rx r
def CalD (X : Cx) (c : Ct) (f : Value) (ds : List PyData) (Q : PyData → Prop) : Prop := ∃ r, CallR X f r ∧
  ∀ Gs Hs G H vs, Stp X.K c.pa Gs Hs G H → DpAll X.K G vs ds → r vs H fun v H' => ∃ G' d, Stp X.K c.pa G H G' H' ∧ Dp X.K G' v d ∧ Q d
def CalL (X : Cx) (c : Ct) (f : Value) (ds : List PyData) (Q : List PyData → Prop) : Prop := ∃ r, CallR X f r ∧
  ∀ Gs Hs G H vs, Stp X.K c.pa Gs Hs G H → DpAll X.K G vs ds → r vs H fun v H' => ∃ G' es, Stp X.K c.pa G H G' H' ∧ ROk X.K G' H H' v (.L es) ∧ Q es
theorem ROk.back {K : PySem.W.Frag} {G H0 H H' : Hp} {v : V} {es : List PyData} (h : ROk K G H H' v (.L es)) (l : ∀ b, H0 b ≠ none → H b ≠ none) : ROk K G H0 H' v (.L es) := by
  obtain ⟨p, xs, h1, h2, h3⟩ := h
  refine ⟨p, xs, h1, ?_, h3⟩
  cases q : H0 p with
  | none => rfl
  | some o => exact absurd h2 (l p (by rw [q]; exact fun z => nomatch z))
theorem we_blt {id : String} {x : Str} (hm : X.mg x = none) (h : WA X c (e :: es) A fun as => ∃ ds, dats as = some ds ∧ CalD X c (.builtin id) ds Q) (hv : bootBuiltins x = some (.builtin id) := by decide +kernel) (hg : Gl X x := by rfl)
    (hn : x ≠ "__name__" := by decide) (hdb : (x == ("__debug__" : Str)) = false := by decide) (he : starEach (e :: es) X.env = (false, eval e X.env) :: starEach es X.env := by rfl) (hpl : (backTo pos (starEach es X.env)).any (·.1) = false := by rfl) :
    WE X c (.Call (.Name x p) (e :: es) [] pos) A Q := fun G ps σ H S =>
  wE_of (pe_callB cW_ok hg hm hv pa_w hn hdb he hpl) (wA_mono (h G ps σ H S) fun vs H1 ⟨G1, as, s1, r1, ds, ed, r, hr, q⟩ => fun pins s σ us I rv =>
    thn (hr pins s σ H1 vs us _ I rv (q G H G1 H1 vs s1 (dats_ok r1 ed))) fun _ _ ⟨v', H', I', r', G', d, st', dd, qq⟩ => ⟨v', H', I', r', G', d, s1.trans st', dd, qq⟩)
theorem we_ty {T : String} {x : Str} (hm : X.mg x = none) (h : WA X c (e :: es) A fun as => ∃ ds, dats as = some ds ∧ CalD X c (.type T) ds Q) (hv : bootBuiltins x = some (.type T) := by decide +kernel) (hg : Gl X x := by rfl)
    (hn : x ≠ "__name__" := by decide) (hdb : (x == ("__debug__" : Str)) = false := by decide) (he : starEach (e :: es) X.env = (false, eval e X.env) :: starEach es X.env := by rfl) (hpl : (backTo pos (starEach es X.env)).any (·.1) = false := by rfl) :
    WE X c (.Call (.Name x p) (e :: es) [] pos) A Q := fun G ps σ H S =>
  wE_of (pe_callTy cW_ok hg hm hv pa_w hn hdb he hpl) (wA_mono (h G ps σ H S) fun vs H1 ⟨G1, as, s1, r1, ds, ed, r, hr, q⟩ => fun pins s σ us I rv =>
    thn (hr pins s σ H1 vs us _ I rv (q G H G1 H1 vs s1 (dats_ok r1 ed))) fun _ _ ⟨v', H', I', r', G', d, st', dd, qq⟩ => ⟨v', H', I', r', G', d, s1.trans st', dd, qq⟩)
theorem wl_ty {T : String} {x : Str} {Q : List PyData → Prop} (hm : X.mg x = none) (h : WA X c (e :: es) A fun as => ∃ ds, dats as = some ds ∧ CalL X c (.type T) ds Q) (hv : bootBuiltins x = some (.type T) := by decide +kernel) (hg : Gl X x := by rfl)
    (hn : x ≠ "__name__" := by decide) (hdb : (x == ("__debug__" : Str)) = false := by decide) (he : starEach (e :: es) X.env = (false, eval e X.env) :: starEach es X.env := by rfl) (hpl : (backTo pos (starEach es X.env)).any (·.1) = false := by rfl) :
    WL X c (.Call (.Name x p) (e :: es) [] pos) A Q := fun G ps σ H S =>
  wE_of (pe_callTy cW_ok hg hm hv pa_w hn hdb he hpl) (wA_mono (h G ps σ H S) fun vs H1 ⟨G1, as, s1, r1, ds, ed, r, hr, q⟩ => fun pins s σ us I rv =>
    thn (hr pins s σ H1 vs us _ I rv (q G H G1 H1 vs s1 (dats_ok r1 ed))) fun _ _ ⟨v', H', I', r', G', d, st', dd, qq⟩ => ⟨v', H', I', r', G', d, s1.trans st', dd.back s1.live, qq⟩)
theorem cd_lenL {ds : List PyData} (q : Q (.int ds.length)) : CalD X c (.builtin "len") [.list ds] Q := ⟨_, call_len_seq, fun _ _ G H vs s h => by
  cases h with
  | cons h1 h2 =>
    cases h2
    obtain ⟨p, xs, rfl, hs, ha⟩ := dp_list h1
    exact ⟨p, xs, rfl, .inl (Evl.ex_l s.sub hs), G, _, s.refl, .int _, by rw [dall_len ha]; exact q⟩⟩
theorem cd_lenT {ds : List PyData} (q : Q (.int ds.length)) : CalD X c (.builtin "len") [.tuple ds] Q := ⟨_, call_len_seq, fun _ _ G H vs s h => by
  cases h with
  | cons h1 h2 =>
    cases h2
    obtain ⟨p, xs, rfl, hs, ha⟩ := dp_tup h1
    exact ⟨p, xs, rfl, .inr (Evl.ex_t s.sub hs), G, _, s.refl, .int _, by rw [dall_len ha]; exact q⟩⟩
theorem cd_int {i : Int} (q : Q (.int i)) : CalD X c (.type "int") [.int i] Q := ⟨_, call_int1, fun _ _ G H vs s h => by
  cases h with
  | cons h1 h2 =>
    cases h2
    cases h1
    exact .inl ⟨i, rfl, G, _, s.refl, .int _, q⟩⟩
theorem cl_list {ds : List PyData} {Q : List PyData → Prop} (q : Q ds) : CalL X c (.type "list") [.list ds] Q := ⟨_, call_list_of, fun _ _ G H vs s h => by
  cases h with
  | cons h1 h2 =>
    cases h2
    obtain ⟨p, xs, rfl, hs, ha⟩ := dp_list h1
    exact ⟨p, xs, rfl, .inl (Evl.ex_l s.sub hs), fun l hl => ⟨G, ds, s.lay hl, ⟨l, xs, rfl, hl, Evl.fresh_back s.sub hl, upd_same, ha⟩, q⟩⟩⟩
theorem cl_listT {ds : List PyData} {Q : List PyData → Prop} (q : Q ds) : CalL X c (.type "list") [.tuple ds] Q := ⟨_, call_list_of, fun _ _ G H vs s h => by
  cases h with
  | cons h1 h2 =>
    cases h2
    obtain ⟨p, xs, rfl, hs, ha⟩ := dp_tup h1
    exact ⟨p, xs, rfl, .inr (Evl.ex_t s.sub hs), fun l hl => ⟨G, ds, s.lay hl, ⟨l, xs, rfl, hl, Evl.fresh_back s.sub hl, upd_same, ha⟩, q⟩⟩⟩
/-- the type of data, and isinstance -/
def tyD : PyData → Option String
  | .none => some "NoneType" | .bool _ => some "bool" | .int _ => some "int" | .str _ => some "str" | .list _ => some "list" | .tuple _ => some "tuple" | .dict _ => none
theorem tyX_of {K : PySem.W.Frag} {G H : Hp} {v : V} {d : PyData} {T : String} (s : Ex G H) (h : Dp K G v d) (t : tyD d = some T) : TyX K H v (.type T) := by
  cases h with
  | non => cases t; exact .base .non
  | bl b => cases t; exact .base (.bl b)
  | int b => cases t; exact .base (.int b)
  | str b => cases t; exact .base (.str b)
  | lst a b =>
    cases t
    rcases a with (a | ⟨o, a⟩) | ⟨o, its, n, a, b, _⟩
    · exact .base (.lst (s _ _ a))
    · exact .base (.frz (s _ _ a))
    · exact .kList a b
  | tup a b =>
    cases t
    rcases a with (a | ⟨o, a⟩) | ⟨o, its, n, a, b, _⟩
    · exact .base (.tup (s _ _ a))
    · exact .fTuple (s _ _ a)
    · exact .kTuple a b
/-! ### own defs -/
abbrev DSpec := List AV → (RV → Prop) → Prop
def lift (K : PySem.W.Frag) (n : Nat) (sp : DSpec) : Sp := fun vs H Q _ => ∃ (G : Hp) (pa : Option Addr) (as : List AV), Stp K pa G H G H ∧ AsOk K pa G vs as ∧ as.length = n ∧ sp as fun r => ∀ v G2 H2, Stp K pa G H G2 H2 → ROk K G2 H H2 v r → Q v H2
structure Callee (P : Program) (w : World) (K : PySem.W.Frag) (mg : Str → Option Value) (base : Heap) (lev : Nat) (x : Str) (n : Nat) (sp : DSpec) : Prop where
  ex : ∃ f fd ps, FnOk P w K mg base CX0 lev f fd ps (lift K n sp) ∧ mg x = some (.ref f) ∧ PySem.W.keepIn K (.ref f) = true ∧ Binds K fd ps []
  mono : ∀ as Q Q', (∀ r, Q r → Q' r) → sp as Q → sp as Q'
theorem frz_ok {K : PySem.W.Frag} {pa : Option Addr} {G H G2 H2 : Hp} {v : V} {r : RV} (s : Stp K pa G H G2 H2) (h : ROk K G2 H H2 v r) : ∃ G3, Stp K pa G H G3 H2 ∧ Dp K G3 v r.frz := by
  cases r with
  | D d => exact ⟨G2, s, h⟩
  | L ds =>
    obtain ⟨p, xs, rfl, h0, hg, h1, hd⟩ := h
    exact ⟨_, s.frz h0 hg h1, .lst (.inl (.inl upd_same)) (dp_upAll (Ex.new hg) _ hd)⟩
theorem we_call {x : Str} {n lev : Nat} {sp : DSpec} (C : Callee X.prog X.w X.K X.mg X.base lev x n sp) (hr : Room lev X.A) (h : WA X c (e :: es) A fun as => as.length = n ∧ sp as fun r => Q r.frz) (hg : Gl X x := by rfl)
    (hdb : (x == ("__debug__" : Str)) = false := by decide) (he : starEach (e :: es) X.env = (false, eval e X.env) :: starEach es X.env := by rfl) (hpl : (backTo pos (starEach es X.env)).any (·.1) = false := by rfl) : WE X c (.Call (.Name x p) (e :: es) [] pos) A Q := fun G ps σ H S => by
  obtain ⟨f, fd, pr, F, hm, hk, hb⟩ := C.ex
  refine wE_of (pe_call F hr hg hm hk hb .nil pass0 pa_w hdb he hpl) (wA_mono (h G ps σ H S) fun vs H1 ⟨G1, as, s1, r1, hl, q⟩ => ?_)
  rw [List.append_nil]
  refine ⟨G1, c.pa, as, s1.refl, r1, hl, C.mono as _ _ (fun r qr v G2 H2 s2 hv => ?_) q⟩
  obtain ⟨G3, s3, hd⟩ := frz_ok s2 hv
  exact ⟨G3, _, s1.trans s3, hd, qr⟩
theorem wl_call {x : Str} {n lev : Nat} {sp : DSpec} {Q : List PyData → Prop} (C : Callee X.prog X.w X.K X.mg X.base lev x n sp) (hr : Room lev X.A) (h : WA X c (e :: es) A fun as => as.length = n ∧ sp as fun r => ∃ ds, r = .L ds ∧ Q ds) (hg : Gl X x := by rfl)
    (hdb : (x == ("__debug__" : Str)) = false := by decide) (he : starEach (e :: es) X.env = (false, eval e X.env) :: starEach es X.env := by rfl) (hpl : (backTo pos (starEach es X.env)).any (·.1) = false := by rfl) : WL X c (.Call (.Name x p) (e :: es) [] pos) A Q := fun G ps σ H S => by
  obtain ⟨f, fd, pr, F, hm, hk, hb⟩ := C.ex
  refine wE_of (pe_call F hr hg hm hk hb .nil pass0 pa_w hdb he hpl) (wA_mono (h G ps σ H S) fun vs H1 ⟨G1, as, s1, r1, hl, q⟩ => ?_)
  rw [List.append_nil]
  refine ⟨G1, c.pa, as, s1.refl, r1, hl, C.mono as _ _ (fun r qr v G2 H2 s2 hv => ?_) q⟩
  obtain ⟨ds, rfl, qd⟩ := qr
  exact ⟨G2, ds, s1.trans s2, hv.back s1.live, qd⟩

/-! ### statements -/
variable {st : Stmt} {sts rest : List Stmt} {D : ADs}
theorem wB_mono {D D' : Ends} {σ : L2.St} {H : Hp} (h : wB X sts D σ H) (n : ∀ σ' H', D.nx σ' H' → D'.nx σ' H') (r : ∀ v H', D.rt v H' → D'.rt v H') (b : ∀ σ' H', D.bk σ' H' → D'.bk σ' H') (t : ∀ σ' H', D.ct σ' H' → D'.ct σ' H') : wB X sts D' σ H := fun pins s I =>
  thn (h pins s I) fun f s' q => by
    cases f with
    | next => obtain ⟨σ', H', I', q⟩ := q; exact ⟨σ', H', I', n _ _ q⟩
    | brk => obtain ⟨σ', H', I', q⟩ := q; exact ⟨σ', H', I', b _ _ q⟩
    | cont => obtain ⟨σ', H', I', q⟩ := q; exact ⟨σ', H', I', t _ _ q⟩
    | ret u => obtain ⟨v, σ', H', I', rv, q⟩ := q; exact ⟨v, σ', H', I', rv, r _ _ q⟩
theorem nxt_up {K : PySem.W.Frag} {G G' : Hp} {P : AS → Prop} {σ : L2.St} {H : Hp} (e : Ex G G') (h : nxt K c G' P σ H) : nxt K c G P σ H := by
  obtain ⟨A, G2, ps, e2, S, q⟩ := h
  exact ⟨A, G2, ps, e.trans e2, S, q⟩
theorem wB_up {K : PySem.W.Frag} {G G' : Hp} {σ : L2.St} {H : Hp} (e : Ex G G') (h : wB X sts (ends K c G' D) σ H) : wB X sts (ends K c G D) σ H :=
  wB_mono h (fun _ _ => nxt_up e) (fun _ _ q => q) (fun _ _ => nxt_up e) fun _ _ => nxt_up e
theorem wb_nil (q : D.nx A) : WB X c [] A D := fun G ps σ H S => wB_of pss_nil ⟨A, G, ps, Ex.refl G, S, q⟩
theorem wb_cons (h : WS X c st A { D with nx := fun A' => WB X c rest A' D }) : WB X c (st :: rest) A D := fun G ps σ H S pins s I => by
  refine wpAny_execs_cons (thn (h G ps σ H S pins s I) fun f s1 q => ?_)
  cases f with
  | next =>
    obtain ⟨σ', H', I', A', G', ps', e, S', q⟩ := q
    exact wB_up e (q G' ps' σ' H' S') pins s1 I'
  | ret v => exact q
  | brk => exact q
  | cont => exact q
theorem wb_one (h : WS X c st A D) : WB X c [st] A D := fun G ps σ H S => wB_of (pss_one ps_w) (h G ps σ H S)
theorem ws_asg {i : Nat} {x : Str} {px : Pos} (h : WE X c e A fun d => D.nx ⟨A.ρ.set i (.dat d), A.μ⟩) (hN : X.N[i]? = some x := by rfl) (hnd : X.N.Nodup) (hx : Loc X.env.scope x := by first | exact .inl rfl | exact .inr rfl)
    (hf : X.fn x = true ∨ X.env.scope.names.lookup x = some .local := by first | exact .inl rfl | exact .inr rfl)
    (hs : swapsWithSole [.Name x px] e pos.line X.env = pure false := by rfl) (hw : swappedStores [.Name x px] e X.env = pure none := by rfl) (h1 : (assignEach [.Name x px] X.env).map (·.2) = [assign (.Name x px) X.env] := by rfl) : WS X c (.Assign [.Name x px] e pos) A D := fun G ps σ H S =>
  wS_of (ps_asg pe_w (pg_name hnd hN hx hf) hs hw h1) (wE_mono (h G ps σ H S) fun v H' ⟨G', d, s, r, q⟩ => ⟨_, G', ps, s.ex, (S.step s).put r, q⟩)
theorem ws_asgL {i : Nat} {x : Str} {px : Pos} (h : WL X c e A fun ds => D.nx ⟨A.ρ.set i (.own A.μ.length), A.μ ++ [some ds]⟩) (hN : X.N[i]? = some x := by rfl) (hnd : X.N.Nodup) (hx : Loc X.env.scope x := by first | exact .inl rfl | exact .inr rfl)
    (hf : X.fn x = true ∨ X.env.scope.names.lookup x = some .local := by first | exact .inl rfl | exact .inr rfl)
    (hs : swapsWithSole [.Name x px] e pos.line X.env = pure false := by rfl) (hw : swappedStores [.Name x px] e X.env = pure none := by rfl) (h1 : (assignEach [.Name x px] X.env).map (·.2) = [assign (.Name x px) X.env] := by rfl) : WS X c (.Assign [.Name x px] e pos) A D := fun G ps σ H S =>
  wS_of (ps_asg pe_w (pg_name hnd hN hx hf) hs hw h1) (wE_mono (h G ps σ H S) fun v H' ⟨G', ds, s, ⟨p, xs, e1, h0, hg, hp, hd⟩, q⟩ => by
    subst e1
    have S' := S.step s
    refine ⟨_, G', ps ++ [p], s.ex, S'.putM ?_ (fun hm => absurd h0 (S.new p hm).2) hg hp hd, q⟩
    cases q2 : c.H0 p with
    | none => rfl
    | some o => exact absurd h0 (S.st.live p (by rw [q2]; exact fun z => nomatch z)))
theorem ws_drop (h : WE X c e A fun _ => D.nx A) (hs : swapsWith e none pos.line X.env = pure false := by rfl) : WS X c (.Expr e pos) A D := fun G ps σ H S =>
  wS_of (ps_expr pe_w hs) (wE_mono (h G ps σ H S) fun v H' ⟨G', d, s, r, q⟩ => ⟨_, G', ps, s.ex, S.step s, q⟩)
theorem ws_ret (h : WE X c e A fun d => D.rt (.D d) A) : WS X c (.Return (some e) pos) A D := fun G ps σ H S =>
  wS_of (ps_ret pe_w) (wE_mono (h G ps σ H S) fun v H' ⟨G', d, s, r, q⟩ => ⟨.D d, A, G', ps, σ, S.step s, r, q⟩)
theorem ws_retL (h : WL X c e A fun d => D.rt (.L d) A) : WS X c (.Return (some e) pos) A D := fun G ps σ H S =>
  wS_of (ps_ret pe_w) (wE_mono (h G ps σ H S) fun v H' ⟨G', d, s, r, q⟩ => ⟨.L d, A, G', ps, σ, S.step s, r.back S.st.live, q⟩)
theorem ws_retN (h : D.rt (.D .none) A) : WS X c (.Return none pos) A D := fun G ps σ H S => wS_of ps_retN ⟨.D .none, A, G, ps, σ, S, .non, h⟩
/-- return x, x a list of one's own -/
theorem ws_retO {i k : Nat} {x : Str} {px : Pos} {ds : List PyData} (hρ : A.ρ[i]? = some (.own k)) (hm : A.μ[k]? = some (some ds)) (q : D.rt (.L ds) A) (hN : X.N[i]? = some x := by rfl) (hv : Vis X.env.scope x := by first | exact Or.inl rfl | exact Or.inr (Or.inl rfl) | exact Or.inr (Or.inr rfl))
    (hd : (x == ("__debug__" : Str)) = false := by decide) (hcd : (x == ("__classdict__" : Str)) = false := by decide) : WS X c (.Return (some (.Name x px)) pos) A D := fun G ps σ H S => by
  obtain ⟨p, hp, hs⟩ := S.sl i _ hρ
  obtain ⟨g, xs, hx, ha⟩ := S.mu k p ds hp hm
  exact wS_of (ps_ret (pe_var hN hv hd hcd)) ⟨.ref p, hs, .L ds, A, G, ps, σ, S, ⟨p, xs, rfl, (S.new p (List.mem_of_getElem? hp)).1, g, hx, ha⟩, q⟩
theorem ws_if {t : Expr} {sa sb : List Stmt} (h : WT X c t A fun k => (k = true → WB X c sa A D) ∧ (k = false → WB X c sb A D)) : WS X c (.If t sa sb pos) A D := fun G ps σ H S =>
  wS_of (ps_if pt_w pss_w pss_w) (wT_mono (h G ps σ H S) fun k H' ⟨G', s, q1, q2⟩ => by
    cases k with
    | true => exact iteT (wB_up s.ex (q1 rfl G' ps σ H' (S.step s)))
    | false => exact iteF (wB_up s.ex (q2 rfl G' ps σ H' (S.step s))))
theorem ws_pass (q : D.nx A) : WS X c (.Pass pos) A D := fun G ps σ H S => wS_of ps_pass ⟨A, G, ps, Ex.refl G, S, q⟩
theorem ws_break (q : D.bk A) : WS X c (.Break pos) A D := fun G ps σ H S => wS_of ps_break ⟨A, G, ps, Ex.refl G, S, q⟩
theorem ws_cont (q : D.ct A) : WS X c (.Continue pos) A D := fun G ps σ H S => wS_of ps_continue ⟨A, G, ps, Ex.refl G, S, q⟩
/-- a list of one's own stands still from here on -/
theorem wb_freeze (k : Nat) {ds : List PyData} (hm : A.μ[k]? = some (some ds)) (h : WB X c sts (A.freeze k ds) D) : WB X c sts A D := fun G ps σ H S => by
  obtain ⟨G', e, S'⟩ := S.freeze hm
  exact wB_up e (h G' ps σ H S')
/-- x op= e, by data -/
theorem ws_aug {i : Nat} {x : Str} {px : Pos} {op : Operator} {d0 : PyData} (hρ : A.ρ[i]? = some (.dat d0)) (h : WE X c e A fun d1 => OpD X c (inplaceOp op) d0 d1 fun d => D.nx ⟨A.ρ.set i (.dat d), A.μ⟩) (hN : X.N[i]? = some x := by rfl) (hnd : X.N.Nodup) (hx : Loc X.env.scope x := by first | exact .inl rfl | exact .inr rfl)
    (hf : X.fn x = true ∨ X.env.scope.names.lookup x = some .local := by first | exact .inl rfl | exact .inr rfl) : WS X c (.AugAssign (.Name x px) op e pos) A D := fun G ps σ H S => by
  obtain ⟨v, hs, hv⟩ := S.sl i _ hρ
  have iw : PIp X op (fun x y H Q => ∀ pins s σ v u, Inv X pins σ H s → RelV x v → RelV y u → wpAny (model X.prog X.w) X.A (inplaceOp op v u) (EP X pins σ Q) X.xe s) := fun pins s σ _ _ _ v u _ I r1 r2 h => h pins s σ v u I r1 r2
  refine wS_of (ps_aug hnd hN hx pe_w iw hf) ⟨v, hs, wE_mono (h G ps σ H S) fun y H1 ⟨G1, d1, s1, r1, r, ho, q⟩ => fun pins s σ' v1 u1 I rv ru => ?_⟩
  refine thn (ho pins s σ' H1 v y v1 u1 _ I rv ru (q G H G1 H1 v y s1 (dp_up s1.ex d0 hv) r1)) fun _ _ ⟨v', H', I', r', G', d, st', dd, qq⟩ => ⟨v', H', I', r', ?_⟩
  exact ⟨_, G', ps, (s1.trans st').ex, (S.step (s1.trans st')).put dd, qq⟩
/-- x.append(e), x a list of one's own -/
theorem ws_app {i k : Nat} {x : Str} {px apos cpos : Pos} {ds : List PyData} (hρ : A.ρ[i]? = some (.own k)) (hm : A.μ[k]? = some (some ds)) (hz : ds.length < 100000) (h : WE X c e A fun d => D.nx ⟨A.ρ, A.μ.set k (some (ds ++ [d]))⟩)
    (hN : X.N[i]? = some x := by rfl) (hv : Vis X.env.scope x := by first | exact Or.inl rfl | exact Or.inr (Or.inl rfl) | exact Or.inr (Or.inr rfl))
    (hd : (x == ("__debug__" : Str)) = false := by decide) (hcd : (x == ("__classdict__" : Str)) = false := by decide)
    (hbase : attributeBase (.Name x px) "append" X.env (eval (.Name x px) X.env) = eval (.Name x px) X.env := by rfl)
    (hfew : ((backTo cpos (starEach [e] X.env)).all (fun x => !x.1) && (backToKw cpos (keywordEach [] X.env)).all (fun x => x.1.isSome) && decide ([e].length + ([] : List Keyword).length + (if ([] : List Keyword).isEmpty then 0 else 1) < 30)) = true := by rfl)
    (hline : (apos.endLine == cpos.line) = true := by rfl) (hs : starEach [e] X.env = (false, eval e X.env) :: starEach [] X.env := by rfl) (hplain : (backTo cpos (starEach [] X.env)).any (·.1) = false := by rfl)
    (hsw : swapsWith (.Call (.Attribute (.Name x px) "append" apos) [e] [] cpos) none pos.line X.env = pure false := by rfl) :
    WS X c (.Expr (.Call (.Attribute (.Name x px) "append" apos) [e] [] cpos) pos) A D := fun G ps σ H S => by
  obtain ⟨p, hp, hsl⟩ := S.sl i _ hρ
  obtain ⟨g, xs, hx, ha⟩ := S.mu k p ds hp hm
  refine wS_of (ps_expr (pe_bm PySem.F.plainAttrs_list PySem.F.slot_list_append PySem.F.type_list_append mt_append (pe_var hN hv hd hcd) (pa_cons pe_w pa_nil hs) hbase hfew hline hs hplain) hsw) ?_
  refine ⟨.ref p, hsl, .inl ⟨rfl, xs, .inl (.inl hx)⟩, wE_mono (h G ps σ H S) fun v H1 ⟨G1, d, s1, r1, q⟩ => ?_⟩
  have S1 := S.step s1
  obtain ⟨g1, ys, hy, hb⟩ := S1.mu k p ds hp hm
  exact ⟨p, ys, v, rfl, rfl, hy, by rw [dall_len hb]; exact Evl.sz_lt hz, _, G1, ps, s1.ex, S1.chg hp hm (dall_app hb (.cons r1 .nil)), q⟩
/-- x[j] of a list of one's own -/
theorem we_ixO {i k : Nat} {x : Str} {px : Pos} {ds : List PyData} (hρ : A.ρ[i]? = some (.own k)) (hm : A.μ[k]? = some (some ds)) (h : WE X c b A fun d2 => ∃ j d, d2 = .int j ∧ atI ds j = some d ∧ Q d)
    (hN : X.N[i]? = some x := by rfl) (hv : Vis X.env.scope x := by first | exact Or.inl rfl | exact Or.inr (Or.inl rfl) | exact Or.inr (Or.inr rfl))
    (hd : (x == ("__debug__" : Str)) = false := by decide) (hcd : (x == ("__classdict__" : Str)) = false := by decide) (hpl : PlainIx b := by intro _ _; rfl) : WE X c (.Subscript (.Name x px) b pos) A Q := fun G ps σ H S => by
  obtain ⟨p, hp, hsl⟩ := S.sl i _ hρ
  refine wE_of (pe_ix ix_list (pe_var hN hv hd hcd) pe_w hpl) ⟨.ref p, hsl, wE_mono (h G ps σ H S) fun v H1 ⟨G1, d2, s1, r1, j, d, e1, ea, q⟩ => ?_⟩
  subst e1
  obtain ⟨g1, ys, hy, hb⟩ := (S.step s1).mu k p ds hp hm
  obtain ⟨w, hw, rw'⟩ := at_ok hb ea
  exact ⟨p, ys, j, w, rfl, dp_int r1, .inl (.inl hy), hw, G1, d, s1, rw', q⟩
/-- len(x) of a list of one's own -/
theorem we_lenO {i k : Nat} {x : Str} {px : Pos} {ds : List PyData} (hm0 : X.mg "len" = none) (hρ : A.ρ[i]? = some (.own k)) (hm : A.μ[k]? = some (some ds)) (q : Q (.int ds.length))
    (hN : X.N[i]? = some x := by rfl) (hv : Vis X.env.scope x := by first | exact Or.inl rfl | exact Or.inr (Or.inl rfl) | exact Or.inr (Or.inr rfl))
    (hd : (x == ("__debug__" : Str)) = false := by decide) (hcd : (x == ("__classdict__" : Str)) = false := by decide) (hg : Gl X "len" := by rfl)
    (he : starEach [.Name x px] X.env = (false, eval (.Name x px) X.env) :: starEach [] X.env := by rfl) (hpl : (backTo pos (starEach [] X.env)).any (·.1) = false := by rfl) : WE X c (.Call (.Name "len" p) [.Name x px] [] pos) A Q := fun G ps σ H S => by
  obtain ⟨p, hp, hsl⟩ := S.sl i _ hρ
  obtain ⟨g, xs, hx, ha⟩ := S.mu k p ds hp hm
  exact wE_of (pe_callB call_len_seq hg hm0 PySem.boot_len (pa_cons (pe_var hN hv hd hcd) pa_nil he) (by decide) (by decide) he hpl) ⟨.ref p, hsl, p, xs, rfl, .inl (.inl (.inl hx)), G, _, S.refl, .int _, by rw [dall_len ha]; exact q⟩
/-- x[j] = e, x a list of one's own -/
theorem ws_setO {i k : Nat} {x : Str} {px ipos : Pos} {ds : List PyData} (hρ : A.ρ[i]? = some (.own k)) (hm : A.μ[k]? = some (some ds)) (h : WE X c e A fun d => WE X c b A fun d2 => ∃ j : Nat, d2 = .int j ∧ j < ds.length ∧ D.nx ⟨A.ρ, A.μ.set k (some (ds.set j d))⟩)
    (hN : X.N[i]? = some x := by rfl) (hv : Vis X.env.scope x := by first | exact Or.inl rfl | exact Or.inr (Or.inl rfl) | exact Or.inr (Or.inr rfl))
    (hd : (x == ("__debug__" : Str)) = false := by decide) (hcd : (x == ("__classdict__" : Str)) = false := by decide)
    (ha : ∀ v, assign (.Subscript (.Name x px) b ipos) X.env v = (do
      let ov ← holding [v] (eval (.Name x px) X.env)
      let iv ← holding [v, ov] (eval b X.env)
      standAt ipos
      holding [v, ov, iv] (setItem ov iv v)
      release [v, ov, iv] []) := by intro _; rfl)
    (hs : swapsWithSole [.Subscript (.Name x px) b ipos] e pos.line X.env = pure false := by rfl) (hw : swappedStores [.Subscript (.Name x px) b ipos] e X.env = pure none := by rfl) (h1 : (assignEach [.Subscript (.Name x px) b ipos] X.env).map (·.2) = [assign (.Subscript (.Name x px) b ipos) X.env] := by rfl) :
    WS X c (.Assign [.Subscript (.Name x px) b ipos] e pos) A D := fun G ps σ H S => by
  obtain ⟨p, hp, hsl⟩ := S.sl i _ hρ
  refine wS_of (ps_asg pe_w (pg_sub (pe_var hN hv hd hcd) pe_w set_list ha) hs hw h1) (wE_mono (h G ps σ H S) fun v H1 ⟨G1, d, s1, r1, q⟩ => ?_)
  refine ⟨.ref p, hsl, wE_mono (q G1 ps σ H1 (S.step s1)) fun v2 H2 ⟨G2, d2, s2, r2, j, e2, hj, q2⟩ => ?_⟩
  subst e2
  have S2 := (S.step s1).step s2
  obtain ⟨g1, ys, hy, hb⟩ := S2.mu k p ds hp hm
  exact ⟨p, ys, (j : Int), j, rfl, dp_int r2, hy, Evl.ixN_nat (by rw [dall_len hb]; exact hj), _, G2, ps, s1.ex.trans s2.ex, S2.chg hp hm (dall_set (dp_up s2.ex d r1) j hb), q2⟩
end
end Eng

set_option Elab.async false
set_option linter.all false
set_option maxRecDepth 100000
set_option maxHeartbeats 2000000
namespace Eng
open PySem PySem.Spec PyProof.Rows L2
open Evl (Ex)
section
variable {X : Cx} {c : Ct} {A : AS} {e a b : Expr} {es : List Expr} {pos p : Pos} {Q : PyData → Prop} {st : Stmt} {sts rest body : List Stmt} {D : ADs}
/-! ### targets of loops -/
def wG (X : Cx) (tg : Expr) : TG := fun v σ H Q => ∀ pins s u, Inv X pins σ H s → RelV v u → wpAny (model X.prog X.w) X.A (assign tg X.env u) (fun _ s' => ∃ σ' H', Inv X pins σ' H' s' ∧ Q σ' H') X.xe s
theorem pg_w {tg : Expr} : PG X tg (wG X tg) := ⟨fun pins s _ _ _ u _ I r h => h pins s u I r⟩
theorem wG_of {tg : Expr} {t : TG} {v : V} {σ : L2.St} {H : Hp} {Q : L2.St → Hp → Prop} (h : PG X tg t) (q : t v σ H Q) : wG X tg v σ H Q := fun pins s u I r => h.run pins s σ H v u Q I r q
theorem wG_mono {tg : Expr} {v : V} {σ : L2.St} {H : Hp} {Q Q' : L2.St → Hp → Prop} (h : wG X tg v σ H Q) (k : ∀ σ H, Q σ H → Q' σ H) : wG X tg v σ H Q' := fun pins s u I r => thn (h pins s u I r) fun _ s' ⟨σ', H', I', q⟩ => ⟨σ', H', I', k _ _ q⟩
/-- a target takes data -/
def WG (X : Cx) (c : Ct) (tg : Expr) (d : PyData) (A : AS) (P : AS → Prop) : Prop := ∀ G ps σ H v, St X.K c A G ps σ H → Dp X.K G v d → wG X tg v σ H fun σ' H' => ∃ A' G', Stp X.K c.pa G H G' H' ∧ St X.K c A' G' ps σ' H' ∧ P A'
theorem wg_name {i : Nat} {x : Str} {d : PyData} {P : AS → Prop} (q : P ⟨A.ρ.set i (.dat d), A.μ⟩) (hN : X.N[i]? = some x := by rfl) (hnd : X.N.Nodup) (hx : Loc X.env.scope x := by first | exact .inl rfl | exact .inr rfl)
    (hf : X.fn x = true ∨ X.env.scope.names.lookup x = some .local := by first | exact .inl rfl | exact .inr rfl) : WG X c (.Name x pos) d A P := fun G ps σ H v S r =>
  wG_of (pg_name hnd hN hx hf) ⟨_, G, S.refl, S.put r, q⟩
def wGs (X : Cx) (ts : List Expr) : TGs := fun vs σ H Q => ∀ pins s us, Inv X pins σ H s → Vals vs us → wpAny (model X.prog X.w) X.A (assignInOrder ((assignEach ts X.env).map (·.2)) us) (fun _ s' => ∃ σ' H', Inv X pins σ' H' s' ∧ Q σ' H') X.xe s
theorem pgs_w {ts : List Expr} : PGs X ts (wGs X ts) := ⟨fun pins s _ _ _ us _ I r h => h pins s us I r⟩
theorem wGs_of {ts : List Expr} {t : TGs} {vs : List V} {σ : L2.St} {H : Hp} {Q : L2.St → Hp → Prop} (h : PGs X ts t) (q : t vs σ H Q) : wGs X ts vs σ H Q := fun pins s us I r => h.run pins s σ H vs us Q I r q
theorem wGs_mono {ts : List Expr} {vs : List V} {σ : L2.St} {H : Hp} {Q Q' : L2.St → Hp → Prop} (h : wGs X ts vs σ H Q) (k : ∀ σ H, Q σ H → Q' σ H) : wGs X ts vs σ H Q' := fun pins s us I r => thn (h pins s us I r) fun _ s' ⟨σ', H', I', q⟩ => ⟨σ', H', I', k _ _ q⟩
def WGs (X : Cx) (c : Ct) (ts : List Expr) (ds : List PyData) (A : AS) (P : AS → Prop) : Prop := ∀ G ps σ H vs, St X.K c A G ps σ H → DpAll X.K G vs ds → wGs X ts vs σ H fun σ' H' => ∃ A' G', Stp X.K c.pa G H G' H' ∧ St X.K c A' G' ps σ' H' ∧ P A'
theorem wgs_nil {P : AS → Prop} (q : P A) : WGs X c [] [] A P := fun G ps σ H vs S r => wGs_of pgs_nil ⟨by cases r; rfl, A, G, S.refl, S, q⟩
theorem wgs_cons {tg : Expr} {ts : List Expr} {d : PyData} {ds : List PyData} {P : AS → Prop} (h : WG X c tg d A fun A' => WGs X c ts ds A' P) (hs : (assignEach (tg :: ts) X.env).map (·.2) = assign tg X.env :: (assignEach ts X.env).map (·.2) := by rfl) : WGs X c (tg :: ts) (d :: ds) A P := fun G ps σ H vs S r => by
  cases r with
  | cons r1 r2 =>
    exact wGs_of (pgs_cons pg_w pgs_w hs) ⟨_, _, rfl, wG_mono (h G ps σ H _ S r1) fun σ1 H1 ⟨A1, G1, s1, S1, q⟩ => wGs_mono (q G1 ps σ1 H1 _ S1 (dp_upAll s1.ex _ r2)) fun σ2 H2 ⟨A2, G2, s2, S2, q2⟩ => ⟨A2, G2, s1.trans s2, S2, q2⟩⟩
theorem wg_tup {ts : List Expr} {k : Nat} {ds : List PyData} {P : AS → Prop} (h : WGs X c ts ds A P) (hl : ds.length = (assignEach ts X.env).length := by rfl) (hc : X.calm = true := by rfl) (hst : (assignEach ts X.env).findIdx? (·.1) = none := by rfl) : WG X c (.Tuple ts k pos) (.tuple ds) A P := fun G ps σ H v S r => by
  obtain ⟨p, xs, rfl, hs, ha⟩ := dp_tup r
  exact wG_of (pg_tup hc pgs_w rfl hst) ⟨p, xs, rfl, Evl.ex_t S.st.sub hs, by rw [dall_len ha, hl], h G ps σ H xs S ha⟩
/-- a, b = e -/
theorem ws_asgT {tg : Expr} (h : WE X c e A fun d => WG X c tg d A D.nx) (hs : swapsWithSole [tg] e pos.line X.env = pure false := by rfl) (hw : swappedStores [tg] e X.env = pure none := by rfl) (h1 : (assignEach [tg] X.env).map (·.2) = [assign tg X.env] := by rfl) : WS X c (.Assign [tg] e pos) A D := fun G ps σ H S =>
  wS_of (ps_asg pe_w pg_w hs hw h1) (wE_mono (h G ps σ H S) fun v H' ⟨G', d, s, r, q⟩ => wG_mono (q G' ps σ H' v (S.step s) r) fun σ2 H2 ⟨A2, G2, s2, S2, q2⟩ => ⟨A2, G2, ps, s.ex.trans s2.ex, S2, q2⟩)

/-! ### loops -/
theorem ws_forL {tg it : Expr} {I : Nat → AS → Prop} (h : WE X c it A fun d => ∃ ds, d = .list ds ∧ I 0 A ∧ (∀ i x A', ds[i]? = some x → I i A' → WG X c tg x A' fun A2 => WB X c body A2 { D with nx := I (i + 1), ct := I (i + 1), bk := D.nx }) ∧ ∀ A', I ds.length A' → D.nx A')
    (hp : PassesOwn (model X.prog X.w) X.A X.env X.xe) (hc : X.calm = true := by rfl) (hs : ∀ x, foldedSetIterable it X.env x = pure x := by intro _; rfl) : WS X c (.For tg it body [] pos) A D := fun G ps σ H S =>
  wS_of (ps_for hp hc (pi_list pe_w) pg_w pss_w hs) (wE_mono (h G ps σ H S) fun v H1 ⟨G1, d, s1, r1, ds, e1, i0, hi, hd⟩ => by
    subst e1
    obtain ⟨p, xs, rfl, hx, ha⟩ := dp_list r1
    have S1 := S.step s1
    refine ⟨p, rfl, ⟨xs, Evl.ex_l s1.sub hx⟩, for_list (xs := xs) (fun i σ' H' => ∃ A' G' ps', Ex G1 G' ∧ St X.K c A' G' ps' σ' H' ∧ I i A') ⟨A, G1, ps, Ex.refl G1, S1, i0⟩ (fun i σ' H' _ ⟨A', G', ps', e', S', _⟩ => Evl.ex_l (e'.trans S'.st.sub) hx) (fun i x σ' H' hxi ⟨A', G', ps', e', S', q⟩ => ?_) (fun σ' H' ⟨A', G', ps', e', S', q⟩ => ?_)⟩
    · obtain ⟨dx, hdx, rdx⟩ := dall_getV ha hxi
      refine wG_mono (hi i dx A' hdx q G' ps' σ' H' x S' (dp_up e' dx rdx)) fun σ2 H2 ⟨A2, G2, s2, S2, q2⟩ => ?_
      refine wB_mono (q2 G2 ps' σ2 H2 S2) (fun σ3 H3 ⟨A3, G3, ps3, e3, S3, q3⟩ => ⟨A3, G3, ps3, (e'.trans s2.ex).trans e3, S3, q3⟩) (fun _ _ q => q) (fun σ3 H3 ⟨A3, G3, ps3, e3, S3, q3⟩ => ⟨A3, G3, ps3, ((s1.ex.trans e').trans s2.ex).trans e3, S3, q3⟩) (fun σ3 H3 ⟨A3, G3, ps3, e3, S3, q3⟩ => ⟨A3, G3, ps3, (e'.trans s2.ex).trans e3, S3, q3⟩)
    · rw [dall_len ha] at q
      exact ⟨A', G', ps', s1.ex.trans e', S', hd A' q⟩)
theorem ws_forT {tg it : Expr} {I : Nat → AS → Prop} (h : WE X c it A fun d => ∃ ds, d = .tuple ds ∧ I 0 A ∧ (∀ i x A', ds[i]? = some x → I i A' → WG X c tg x A' fun A2 => WB X c body A2 { D with nx := I (i + 1), ct := I (i + 1), bk := D.nx }) ∧ ∀ A', I ds.length A' → D.nx A')
    (hp : PassesOwn (model X.prog X.w) X.A X.env X.xe) (hc : X.calm = true := by rfl) (hs : ∀ x, foldedSetIterable it X.env x = pure x := by intro _; rfl) : WS X c (.For tg it body [] pos) A D := fun G ps σ H S =>
  wS_of (ps_for hp hc (pi_tup pe_w) pg_w pss_w hs) (wE_mono (h G ps σ H S) fun v H1 ⟨G1, d, s1, r1, ds, e1, i0, hi, hd⟩ => by
    subst e1
    obtain ⟨p, xs, rfl, hx, ha⟩ := dp_tup r1
    have S1 := S.step s1
    refine ⟨p, rfl, ⟨xs, Evl.ex_t s1.sub hx⟩, for_tup (xs := xs) (fun i σ' H' => ∃ A' G' ps', Ex G1 G' ∧ St X.K c A' G' ps' σ' H' ∧ I i A') ⟨A, G1, ps, Ex.refl G1, S1, i0⟩ (fun i σ' H' _ ⟨A', G', ps', e', S', _⟩ => Evl.ex_t (e'.trans S'.st.sub) hx) (fun i x σ' H' hxi ⟨A', G', ps', e', S', q⟩ => ?_) (fun σ' H' ⟨A', G', ps', e', S', q⟩ => ?_)⟩
    · obtain ⟨dx, hdx, rdx⟩ := dall_getV ha hxi
      refine wG_mono (hi i dx A' hdx q G' ps' σ' H' x S' (dp_up e' dx rdx)) fun σ2 H2 ⟨A2, G2, s2, S2, q2⟩ => ?_
      refine wB_mono (q2 G2 ps' σ2 H2 S2) (fun σ3 H3 ⟨A3, G3, ps3, e3, S3, q3⟩ => ⟨A3, G3, ps3, (e'.trans s2.ex).trans e3, S3, q3⟩) (fun _ _ q => q) (fun σ3 H3 ⟨A3, G3, ps3, e3, S3, q3⟩ => ⟨A3, G3, ps3, ((s1.ex.trans e').trans s2.ex).trans e3, S3, q3⟩) (fun σ3 H3 ⟨A3, G3, ps3, e3, S3, q3⟩ => ⟨A3, G3, ps3, (e'.trans s2.ex).trans e3, S3, q3⟩)
    · rw [dall_len ha] at q
      exact ⟨A', G', ps', s1.ex.trans e', S', hd A' q⟩)
/-- what is said of the arguments of range -/
def rgArgs : List AV → Option (Int × Int)
  | [.dat (.int n)] => some (0, n)
  | [.dat (.int a), .dat (.int b)] => some (a, b)
  | _ => none
theorem ws_forR1 {tg n : Expr} {p2 : Pos} {I : Nat → AS → Prop} (hm : X.mg "range" = none) (h : WE X c n A fun d => ∃ m, d = .int m ∧ m < 2 ^ 61 ∧ -(2 ^ 61) < m ∧ I 0 A ∧ (∀ (i : Nat) A', (i : Int) < m → I i A' → WG X c tg (.int i) A' fun A2 => WB X c body A2 { D with nx := I (i + 1), ct := I (i + 1), bk := D.nx }) ∧ ∀ A', I m.toNat A' → D.nx A')
    (hp : PassesOwn (model X.prog X.w) X.A X.env X.xe) (hc : X.calm = true := by rfl) (hg : Gl X "range" := by rfl) (hst : starEach [n] X.env = (false, eval n X.env) :: starEach [] X.env := by rfl) (hst2 : starEach [n] X.env = [(false, eval n X.env)] := by rfl) (hs : ∀ x, foldedSetIterable (.Call (.Name "range" p) [n] [] p2) X.env x = pure x := by intro _; rfl) : WS X c (.For tg (.Call (.Name "range" p) [n] [] p2) body [] pos) A D := fun G ps σ H S =>
  wS_of (ps_for hp hc (pi_range1 hg hm (pa_cons pe_w pa_nil hst) hst2) pg_w pss_w hs) (wE_mono (h G ps σ H S) fun v H1 ⟨G1, d, s1, r1, m, e1, b1, b2, i0, hi, hd⟩ => by
    subst e1
    have S1 := S.step s1
    refine ⟨m, by rw [dp_int r1], by omega, by omega, for_range (n := m.toNat) (fun i σ' H' => ∃ A' G' ps', Ex G1 G' ∧ St X.K c A' G' ps' σ' H' ∧ I i A') ⟨A, G1, ps, Ex.refl G1, S1, i0⟩ (fun i σ' H' hxi ⟨A', G', ps', e', S', q⟩ => ?_) (fun σ' H' ⟨A', G', ps', e', S', q⟩ => ?_)⟩
    · have ei : (0 : Int) + (i : Int) = (i : Int) := Int.zero_add _
      rw [ei]
      refine wG_mono (hi i A' (by omega) q G' ps' σ' H' _ S' (.int _)) fun σ2 H2 ⟨A2, G2, s2, S2, q2⟩ => ?_
      refine wB_mono (q2 G2 ps' σ2 H2 S2) (fun σ3 H3 ⟨A3, G3, ps3, e3, S3, q3⟩ => ⟨A3, G3, ps3, (e'.trans s2.ex).trans e3, S3, q3⟩) (fun _ _ q => q) (fun σ3 H3 ⟨A3, G3, ps3, e3, S3, q3⟩ => ⟨A3, G3, ps3, ((s1.ex.trans e').trans s2.ex).trans e3, S3, q3⟩) (fun σ3 H3 ⟨A3, G3, ps3, e3, S3, q3⟩ => ⟨A3, G3, ps3, (e'.trans s2.ex).trans e3, S3, q3⟩)
    · exact ⟨A', G', ps', s1.ex.trans e', S', hd A' q⟩)
theorem ws_while {t : Expr} {I : Nat → AS → Prop} (m : Nat) (h0 : I m A) (h : ∀ m A', I m A' → WT X c t A' fun k => (k = true → WB X c body A' { D with nx := fun A2 => ∃ m', m' < m ∧ I m' A2, ct := fun A2 => ∃ m', m' < m ∧ I m' A2, bk := D.nx }) ∧ (k = false → D.nx A'))
    (hp : PassesOwn (model X.prog X.w) X.A X.env X.xe) : WS X c (.While t body [] pos) A D := fun G ps σ H S =>
  wS_of (ps_while hp pt_w pss_w) ⟨fun m σ' H' => ∃ A' G' ps', Ex G G' ∧ St X.K c A' G' ps' σ' H' ∧ I m A', ⟨m, A, G, ps, Ex.refl G, S, h0⟩, fun m σ' H' ⟨A', G', ps', e', S', q⟩ => wT_mono (h m A' q G' ps' σ' H' S') fun k H1 ⟨G1, s1, q1, q2⟩ => by
    cases k with
    | true =>
      refine iteT ⟨fun σ2 H2 => ∃ A2 G2 ps2, Ex G G2 ∧ St X.K c A2 G2 ps2 σ2 H2 ∧ ∃ m', m' < m ∧ I m' A2, fun σ2 H2 ⟨A2, G2, ps2, e2, S2, m', hm, q⟩ => ⟨m', hm, A2, G2, ps2, e2, S2, q⟩, ?_⟩
      exact wB_mono (q1 rfl G1 ps' σ' H1 (S'.step s1)) (fun σ3 H3 ⟨A3, G3, ps3, e3, S3, q3⟩ => ⟨A3, G3, ps3, (e'.trans s1.ex).trans e3, S3, q3⟩) (fun _ _ q => q) (fun σ3 H3 ⟨A3, G3, ps3, e3, S3, q3⟩ => ⟨A3, G3, ps3, (e'.trans s1.ex).trans e3, S3, q3⟩) (fun σ3 H3 ⟨A3, G3, ps3, e3, S3, q3⟩ => ⟨A3, G3, ps3, (e'.trans s1.ex).trans e3, S3, q3⟩)
    | false => exact iteF ⟨A', G1, ps', e'.trans s1.ex, S'.step s1, q2 rfl⟩⟩

/-! ### comprehensions -/
def wipeA (ρ : List SV) : List Nat → List SV
  | [] => ρ
  | v :: vs => (wipeA ρ vs).set v .any
theorem St.wipe {K : PySem.W.Frag} {G : Hp} {ps : List Addr} {σ : L2.St} {H : Hp} (S : St K c A G ps σ H) : ∀ vs : List Nat, St K c ⟨wipeA A.ρ vs, A.μ⟩ G ps (L2.wipe σ vs) H
  | [] => S
  | v :: vs => by
    have T := S.wipe vs
    refine ⟨T.st, by show ((L2.wipe σ vs).set v none).length = ((wipeA A.ρ vs).set v .any).length; rw [List.length_set, List.length_set]; exact T.len, fun j sv e => ?_, T.mlen, T.inj, T.pre, T.new, T.mu⟩
    have e' : ((wipeA A.ρ vs).set v .any)[j]? = some sv := e
    show SlotOk K c.pa G ps ((L2.wipe σ vs).set v none)[j]? sv
    by_cases z : v = j
    · subst z
      rw [List.getElem?_set_self'] at e'
      cases q : (wipeA A.ρ vs)[v]? with
      | none => rw [q] at e'; cases e'
      | some y =>
        rw [q] at e'
        have e2 : SV.any = sv := Option.some.inj e'
        subst e2
        exact True.intro
    · rw [List.getElem?_set_ne z] at e' ⊢
      exact T.sl j sv e'
theorem wipe_put {σ : L2.St} {j : Nat} {x : Option V} : L2.wipe ((L2.wipe σ [j]).set j x) [j] = L2.wipe σ [j] := by
  show ((σ.set j none).set j x).set j none = σ.set j none
  rw [List.set_set, List.set_set]
/-- the heap of a comprehension's turn: D the list that is made -/
def LcI (K : PySem.W.Frag) (pa : Option Addr) (G1 H1 : Hp) (L : Addr) (P : List PyData → Prop) (n : Nat) (H' : Hp) : Prop :=
  ∃ G' xs acc, Stp K pa G1 H1 G' H' ∧ H' L = some (.lst xs) ∧ G' L = none ∧ DpAll K G' xs acc ∧ xs.length ≤ n ∧ P acc
theorem lc_turn {K : PySem.W.Frag} {G1 H1 : Hp} {L : Addr} {ps : List Addr} {σ : L2.St} {j : Nat} {x : V} {d : PyData} {tt : TT} {te : TE} {i : Nat} {H' : Hp} {P P' : List PyData → Prop} (S : St K c A G1 ps σ H1) (hL : H1 L = none) (rd : Dp K G1 x d) (hi : i < 50000)
    (h : LcI K c.pa G1 H1 L P i H') (ht : ∀ acc, P acc → ∀ G' H2, St K c ⟨(wipeA A.ρ [j]).set j (.dat d), A.μ⟩ G' ps ((L2.wipe σ [j]).set j (some x)) H2 → tt ((L2.wipe σ [j]).set j (some x)) H2 fun b H3 => ∃ G3, Stp K c.pa G' H2 G3 H3 ∧ (b = true → te ((L2.wipe σ [j]).set j (some x)) H3 fun y H4 => ∃ G4 dy, Stp K c.pa G3 H3 G4 H4 ∧ Dp K G4 y dy ∧ P' (acc ++ [dy])) ∧ (b = false → P' acc))
    (hm : ∀ σ H (Q Q' : Bool → Hp → Prop), tt σ H Q → (∀ b H', Q b H' → Q' b H') → tt σ H Q') (hme : ∀ σ H (Q Q' : VK), te σ H Q → (∀ b H', Q b H' → Q' b H') → te σ H Q') :
    tt ((L2.wipe σ [j]).set j (some x)) H' fun b H3 => if b = true then te ((L2.wipe σ [j]).set j (some x)) H3 fun y H4 => ∃ acc, H4 L = some (.lst acc) ∧ acc.length < sizeLine ∧ LcI K c.pa G1 H1 L P' (i + 1) (upd H4 L (.lst (acc ++ [y]))) else LcI K c.pa G1 H1 L P' (i + 1) H3 := by
  obtain ⟨G', xs, acc, s, hx, hg, ha, hl, hp⟩ := h
  have S' : St K c ⟨(wipeA A.ρ [j]).set j (.dat d), A.μ⟩ G' ps ((L2.wipe σ [j]).set j (some x)) H' := ((S.wipe [j]).put rd).step s
  have nL : c.pa ≠ some L := fun z => (s.pool L z).1 hL
  refine hm _ _ _ _ (ht acc hp G' H' S') fun b H3 ⟨G3, s3, q1, q2⟩ => ?_
  have hx3 : H3 L = some (.lst xs) := s3.keep L _ nL hx
  have hg3 : G3 L = none := s3.fr L (by rw [hx]; exact fun z => nomatch z) hg
  cases b with
  | false => exact iteF ⟨G3, xs, acc, s.trans s3, hx3, hg3, dp_upAll s3.ex _ ha, Nat.le_succ_of_le hl, q2 rfl⟩
  | true =>
    refine iteT (hme _ _ _ _ (q1 rfl) fun y H4 ⟨G4, dy, s4, ry, q⟩ => ?_)
    have hx4 : H4 L = some (.lst xs) := s4.keep L _ nL hx3
    have hg4 : G4 L = none := s4.fr L (by rw [hx3]; exact fun z => nomatch z) hg3
    refine ⟨xs, hx4, Evl.sz_lt (by omega), G4, xs ++ [y], acc ++ [dy], ((s.trans s3).trans s4).mut hL hg4, upd_same, hg4, dall_app (dp_upAll (s3.ex.trans s4.ex) _ ha) (.cons ry .nil), by rw [List.length_append]; exact Nat.add_le_add_right hl 1, q⟩
def wTs (X : Cx) (ifs : List Expr) : TT := fun σ H Q => ∀ pins s, Inv X pins σ H s → wpAny (model X.prog X.w) X.A (forIn ifs true fun c r => if r = true then do let ok ← isTrue c X.env (eval c X.env); pure (ForInStep.yield ok) else pure (ForInStep.yield r)) (TP X pins σ Q) X.xe s
theorem wTs_mono {ifs : List Expr} {σ : L2.St} {H : Hp} {Q Q' : Bool → Hp → Prop} (h : wTs X ifs σ H Q) (k : ∀ v H', Q v H' → Q' v H') : wTs X ifs σ H Q' := fun pins s I => thn (h pins s I) fun u s' ⟨H', I', q⟩ => ⟨H', I', k _ H' q⟩
/-- a comprehension's tests and element, in every frame that its block may have -/
def bE (X : Cx) (scope : Scope) (e : Expr) : TE := fun σ H Q => ∀ (s : Shared) (H0 : Hp) (C : Addr) (cl : List (Str × Addr)) (fp : List Addr), wE (X.blk s H0 scope (compEnvC scope cl C X.env) fp) e σ H Q
def bT (X : Cx) (scope : Scope) (ifs : List Expr) : TT := fun σ H Q => ∀ (s : Shared) (H0 : Hp) (C : Addr) (cl : List (Str × Addr)) (fp : List Addr), wTs (X.blk s H0 scope (compEnvC scope cl C X.env) fp) ifs σ H Q
/-- the tests and the element from abstract states -/
def WTe (X : Cx) (c : Ct) (scope : Scope) (ifs : List Expr) (elt : Expr) (A : AS) (P : PyData → Prop) (Pn : Prop) : Prop := ∀ G ps σ H, St X.K c A G ps σ H → bT X scope ifs σ H fun b H3 => ∃ G3, Stp X.K c.pa G H G3 H3 ∧ (b = true → bE X scope elt σ H3 fun y H4 => ∃ G4 dy, Stp X.K c.pa G3 H3 G4 H4 ∧ Dp X.K G4 y dy ∧ P dy) ∧ (b = false → Pn)
end
end Eng

set_option Elab.async false
set_option linter.all false
set_option maxRecDepth 100000
set_option maxHeartbeats 2000000
namespace Eng
open PySem PySem.Spec PyProof.Rows L2
open Evl (Ex)
section
variable {X : Cx} {c : Ct} {A : AS} {e a b : Expr} {es : List Expr} {pos p : Pos} {Q : PyData → Prop} {st : Stmt} {sts rest body : List Stmt} {D : ADs}
def WTs (X : Cx) (c : Ct) (ifs : List Expr) (A : AS) (Q : Bool → Prop) : Prop := ∀ G ps σ H, St X.K c A G ps σ H → wTs X ifs σ H fun b H' => ∃ G', Stp X.K c.pa G H G' H' ∧ Q b
theorem wTs_of {ifs : List Expr} {tt : TT} {σ : L2.St} {H : Hp} {Q : Bool → Hp → Prop} (h : PTs X ifs tt) (q : tt σ H Q) : wTs X ifs σ H Q := fun pins s I => h.run pins s σ H Q I q
theorem wts_nil {Q : Bool → Prop} (q : Q true) : WTs X c [] A Q := fun G ps σ H S => wTs_of pts_nil ⟨G, S.refl, q⟩
theorem wts_one {t : Expr} {Q : Bool → Prop} (h : WT X c t A Q) : WTs X c [t] A Q := fun G ps σ H S => wTs_of (pts_one pt_w) (h G ps σ H S)
/-- one turn of a comprehension, by data: what is appended -/
def Turn (X : Cx) (c : Ct) (scope : Scope) (ifs : List Expr) (elt : Expr) (A : AS) (acc : List PyData) (P : List PyData → Prop) : Prop :=
  ∀ (s : Shared) (H0 : Hp) (C : Addr) (cl : List (Str × Addr)) (fp : List Addr), WTs (X.blk s H0 scope (compEnvC scope cl C X.env) fp) c ifs A fun k =>
    (k = true → ∀ (s : Shared) (H0 : Hp) (C : Addr) (cl : List (Str × Addr)) (fp : List Addr), WE (X.blk s H0 scope (compEnvC scope cl C X.env) fp) c elt A fun d => P (acc ++ [d])) ∧ (k = false → P acc)
theorem turn_ok {scope : Scope} {ifs : List Expr} {elt : Expr} {G1 H1 : Hp} {L : Addr} {ps : List Addr} {σ : L2.St} {j : Nat} {x : V} {d : PyData} {i : Nat} {H' : Hp} {P P' : List PyData → Prop} (S : St X.K c A G1 ps σ H1) (hL : H1 L = none) (rd : Dp X.K G1 x d) (hi : i < 50000)
    (h : LcI X.K c.pa G1 H1 L P i H') (ht : ∀ acc, P acc → Turn X c scope ifs elt ⟨(wipeA A.ρ [j]).set j (.dat d), A.μ⟩ acc P') :
    L2.wipe ((L2.wipe σ [j]).set j (some x)) [j] = L2.wipe σ [j] ∧ bT X scope ifs ((L2.wipe σ [j]).set j (some x)) H' fun b H3 => if b = true then bE X scope elt ((L2.wipe σ [j]).set j (some x)) H3 fun y H4 => ∃ acc, H4 L = some (.lst acc) ∧ acc.length < sizeLine ∧ LcI X.K c.pa G1 H1 L P' (i + 1) (upd H4 L (.lst (acc ++ [y]))) else LcI X.K c.pa G1 H1 L P' (i + 1) H3 := by
  refine ⟨wipe_put, lc_turn S hL rd hi h (fun acc hp G' H2 S2 s0 H0 C cl fp => ?_) (fun _ _ _ _ h k s0 H0 C cl fp => wTs_mono (h s0 H0 C cl fp) k) (fun _ _ _ _ h k s0 H0 C cl fp => wE_mono (h s0 H0 C cl fp) k)⟩
  exact wTs_mono (ht acc hp s0 H0 C cl fp G' ps _ H2 S2) fun k H3 ⟨G3, s3, q1, q2⟩ => ⟨G3, s3, fun hk s1 H1 C1 cl1 fp1 => q1 hk s1 H1 C1 cl1 fp1 G3 ps _ H3 (S2.step s3), q2⟩
def LcW (X : Cx) (c : Ct) (G H : Hp) (Q : List PyData → Prop) : VK := fun v H' => ∃ G' ds, Stp X.K c.pa G H G' H' ∧ ROk X.K G' H H' v (.L ds) ∧ Q ds
theorem lc_end {G H G1 H1 : Hp} {L : Addr} {P Q : List PyData → Prop} {n : Nat} {H' : Hp} (s1 : Stp X.K c.pa G H G1 H1) (hL : H1 L = none) (h : LcI X.K c.pa G1 H1 L P n H') (q : ∀ acc, P acc → Q acc) : LcW X c G H Q (.ref L) H' := by
  obtain ⟨G', xs, acc, s, hx, hg, ha, hl, hp⟩ := h
  refine ⟨G', acc, s1.trans s, ⟨L, xs, rfl, ?_, hg, hx, ha⟩, q acc hp⟩
  cases q2 : H L with
  | none => rfl
  | some o => exact absurd hL (s1.live L (by rw [q2]; exact fun z => nomatch z))
theorem lc_start {G1 H1 : Hp} {L : Addr} {P : List PyData → Prop} {σ : L2.St} {ps : List Addr} (S : St X.K c A G1 ps σ H1) (hL : H1 L = none) (p0 : P []) : LcI X.K c.pa G1 H1 L P 0 (upd H1 L (.lst [])) :=
  ⟨G1, [], [], S.refl.lay hL, upd_same, Evl.fresh_back S.st.sub hL, .nil, Nat.zero_le _, p0⟩
/-- what is asked of a comprehension over a list, over a tuple, over a range -/
abbrev LcL (X : Cx) (c : Ct) (scope : Scope) (it : Expr) (ifs : List Expr) (elt : Expr) (j : Nat) (A : AS) (P : Nat → List PyData → Prop) (Q : List PyData → Prop) : Prop :=
  WE X c it A fun d => ∃ ds, d = .list ds ∧ ds.length ≤ 40000 ∧ P 0 [] ∧ (∀ i x acc, ds[i]? = some x → P i acc → Turn X c scope ifs elt ⟨(wipeA A.ρ [j]).set j (.dat x), A.μ⟩ acc (P (i + 1))) ∧ ∀ acc, P ds.length acc → Q acc
theorem lc_readL {scope : Scope} {it elt : Expr} {ifs : List Expr} {j : Nat} {P : Nat → List PyData → Prop} {Q : List PyData → Prop} {G : Hp} {ps : List Addr} {σ : L2.St} {H : Hp} (h : LcL X c scope it ifs elt j A P Q) (S : St X.K c A G ps σ H) :
    tLc (iList X.K (wE X it)) (gName j) (bT X scope ifs) (bE X scope elt) [j] σ H (LcW X c G H Q) :=
  wE_mono (h G ps σ H S) fun v H1 ⟨G1, d, s1, r1, ds, e1, hz, p0, ht, hd⟩ => by
    subst e1
    obtain ⟨p, xs, rfl, hx, ha⟩ := dp_list r1
    have S1 := S.step s1
    refine ⟨p, rfl, ⟨xs, Evl.ex_l s1.sub hx⟩, fun L hL => ?_⟩
    refine lc_list (xs := xs) (fun i H' => LcI X.K c.pa G1 H1 L (P i) i H') (lc_start S1 hL p0) (fun i H' _ q => ?_) (fun i x H' hxi q => ?_) fun H' q => ?_
    · obtain ⟨G', _, _, s, _⟩ := q
      exact Evl.ex_l (s.ex.trans s.sub) hx
    · obtain ⟨dx, hdx, rdx⟩ := dall_getV ha hxi
      have hi : i < xs.length := (List.getElem?_eq_some_iff.mp hxi).1
      rw [dall_len ha] at hi
      exact turn_ok S1 hL rdx (by omega) q fun acc hp => ht i dx acc hdx hp
    · rw [dall_len ha] at q
      exact lc_end s1 hL q hd
abbrev LcT (X : Cx) (c : Ct) (scope : Scope) (it : Expr) (ifs : List Expr) (elt : Expr) (j : Nat) (A : AS) (P : Nat → List PyData → Prop) (Q : List PyData → Prop) : Prop :=
  WE X c it A fun d => ∃ ds, d = .tuple ds ∧ ds.length ≤ 40000 ∧ P 0 [] ∧ (∀ i x acc, ds[i]? = some x → P i acc → Turn X c scope ifs elt ⟨(wipeA A.ρ [j]).set j (.dat x), A.μ⟩ acc (P (i + 1))) ∧ ∀ acc, P ds.length acc → Q acc
theorem lc_readT {scope : Scope} {it elt : Expr} {ifs : List Expr} {j : Nat} {P : Nat → List PyData → Prop} {Q : List PyData → Prop} {G : Hp} {ps : List Addr} {σ : L2.St} {H : Hp} (h : LcT X c scope it ifs elt j A P Q) (S : St X.K c A G ps σ H) :
    tLc (iTup X.K (wE X it)) (gName j) (bT X scope ifs) (bE X scope elt) [j] σ H (LcW X c G H Q) :=
  wE_mono (h G ps σ H S) fun v H1 ⟨G1, d, s1, r1, ds, e1, hz, p0, ht, hd⟩ => by
    subst e1
    obtain ⟨p, xs, rfl, hx, ha⟩ := dp_tup r1
    have S1 := S.step s1
    refine ⟨p, rfl, ⟨xs, Evl.ex_t s1.sub hx⟩, fun L hL => ?_⟩
    refine lc_tup (xs := xs) (fun i H' => LcI X.K c.pa G1 H1 L (P i) i H') (lc_start S1 hL p0) (fun i H' _ q => ?_) (fun i x H' hxi q => ?_) fun H' q => ?_
    · obtain ⟨G', _, _, s, _⟩ := q
      exact Evl.ex_t (s.ex.trans s.sub) hx
    · obtain ⟨dx, hdx, rdx⟩ := dall_getV ha hxi
      have hi : i < xs.length := (List.getElem?_eq_some_iff.mp hxi).1
      rw [dall_len ha] at hi
      exact turn_ok S1 hL rdx (by omega) q fun acc hp => ht i dx acc hdx hp
    · rw [dall_len ha] at q
      exact lc_end s1 hL q hd
abbrev LcR (X : Cx) (c : Ct) (scope : Scope) (it : Expr) (ifs : List Expr) (elt : Expr) (j : Nat) (A : AS) (P : Nat → List PyData → Prop) (Q : List PyData → Prop) : Prop :=
  WE X c it A fun d => ∃ m, d = .int m ∧ m ≤ 40000 ∧ -(2 ^ 61) < m ∧ P 0 [] ∧ (∀ (i : Nat) acc, (i : Int) < m → P i acc → Turn X c scope ifs elt ⟨(wipeA A.ρ [j]).set j (.dat (.int i)), A.μ⟩ acc (P (i + 1))) ∧ ∀ acc, P m.toNat acc → Q acc
theorem lc_readR {scope : Scope} {it elt : Expr} {ifs : List Expr} {j : Nat} {P : Nat → List PyData → Prop} {Q : List PyData → Prop} {G : Hp} {ps : List Addr} {σ : L2.St} {H : Hp} (h : LcR X c scope it ifs elt j A P Q) (S : St X.K c A G ps σ H) :
    tLc (iRng1 (tCons (wE X it) tNil)) (gName j) (bT X scope ifs) (bE X scope elt) [j] σ H (LcW X c G H Q) :=
  wE_mono (h G ps σ H S) fun v H1 ⟨G1, d, s1, r1, m, e1, b1, b2, p0, ht, hd⟩ => by
    subst e1
    have S1 := S.step s1
    refine ⟨m, by rw [dp_int r1], by omega, by omega, fun L hL => ?_⟩
    refine lc_range (n := m.toNat) (fun i H' => LcI X.K c.pa G1 H1 L (P i) i H') (lc_start S1 hL p0) (fun i H' hxi q => ?_) fun H' q => ?_
    · have ei : (0 : Int) + (i : Int) = (i : Int) := Int.zero_add _
      rw [ei]
      exact turn_ok S1 hL (.int _) (by omega) q fun acc hp => ht i acc (by omega) hp
    · exact lc_end s1 hL q hd
variable {scope : Scope} {it elt : Expr} {ifs : List Expr} {j : Nat} {x : Str} {P : Nat → List PyData → Prop} {Ql : List PyData → Prop} {px : Pos}
theorem bE_ok {s : Shared} {H : Hp} {C : Addr} {cl : List (Str × Addr)} {fp : List Addr} : PE (X.blk s H scope (compEnvC scope cl C X.env) fp) elt (bE X scope elt) := ⟨fun pins s0 _ _ _ I h => h s H C cl fp pins s0 I⟩
theorem bT_ok {s : Shared} {H : Hp} {C : Addr} {cl : List (Str × Addr)} {fp : List Addr} : PTs (X.blk s H scope (compEnvC scope cl C X.env) fp) ifs (bT X scope ifs) := ⟨fun pins s0 _ _ _ I h => h s H C cl fp pins s0 I⟩
theorem wl_lcL (ok : BlkOk X.N X.env.scope scope [(x, j)]) (h : LcL X c scope it ifs elt j A P Ql) (nd : X.N.Nodup) (hg : ∀ (s : Shared) (H : Hp) (C : Addr) (cl : List (Str × Addr)) (fp : List Addr), PG (X.blk s H scope (compEnvC scope cl C X.env) fp) (.Name x px) (gName j))
    (hc : X.calm = true := by rfl) (hs : ∀ x, foldedSetIterable it X.env x = pure x := by intro _; rfl) : WL X c (.ListComp elt [⟨.Name x px, it, ifs, 0⟩] scope pos) A Ql := fun G ps σ H S =>
  wE_of (pe_lc hc nd (pi_list pe_w) ok hg (fun _ _ _ _ _ => bT_ok) (fun _ _ _ _ _ => bE_ok) hs) (lc_readL h S)
theorem wl_lcT (ok : BlkOk X.N X.env.scope scope [(x, j)]) (h : LcT X c scope it ifs elt j A P Ql) (nd : X.N.Nodup) (hg : ∀ (s : Shared) (H : Hp) (C : Addr) (cl : List (Str × Addr)) (fp : List Addr), PG (X.blk s H scope (compEnvC scope cl C X.env) fp) (.Name x px) (gName j))
    (hc : X.calm = true := by rfl) (hs : ∀ x, foldedSetIterable it X.env x = pure x := by intro _; rfl) : WL X c (.ListComp elt [⟨.Name x px, it, ifs, 0⟩] scope pos) A Ql := fun G ps σ H S =>
  wE_of (pe_lc hc nd (pi_tup pe_w) ok hg (fun _ _ _ _ _ => bT_ok) (fun _ _ _ _ _ => bE_ok) hs) (lc_readT h S)
theorem wl_lcR {p2 : Pos} (hm : X.mg "range" = none) (ok : BlkOk X.N X.env.scope scope [(x, j)]) (h : LcR X c scope it ifs elt j A P Ql) (nd : X.N.Nodup) (hg : ∀ (s : Shared) (H : Hp) (C : Addr) (cl : List (Str × Addr)) (fp : List Addr), PG (X.blk s H scope (compEnvC scope cl C X.env) fp) (.Name x px) (gName j))
    (hc : X.calm = true := by rfl) (hgl : Gl X "range" := by rfl) (hst : starEach [it] X.env = (false, eval it X.env) :: starEach [] X.env := by rfl) (hst2 : starEach [it] X.env = [(false, eval it X.env)] := by rfl) (hs : ∀ x, foldedSetIterable (.Call (.Name "range" p) [it] [] p2) X.env x = pure x := by intro _; rfl) : WL X c (.ListComp elt [⟨.Name x px, .Call (.Name "range" p) [it] [] p2, ifs, 0⟩] scope pos) A Ql := fun G ps σ H S =>
  wE_of (pe_lc hc nd (pi_range1 hgl hm (pa_cons pe_w pa_nil hst) hst2) ok hg (fun _ _ _ _ _ => bT_ok) (fun _ _ _ _ _ => bE_ok) hs) (lc_readR h S)
/-- y = [..] -/
theorem setLc_end {i : Nat} {G : Hp} {ps : List Addr} {σ : L2.St} {H : Hp} (S : St X.K c A G ps σ H) {v : V} {H' : Hp} (h : LcW X c G H (fun ds => D.nx ⟨A.ρ.set i (.own A.μ.length), A.μ ++ [some ds]⟩) v H') : (ends X.K c G D).nx (σ.set i (some v)) H' := by
  obtain ⟨G', ds, s, ⟨p, xs, e1, h0, hg, hp, hd⟩, q⟩ := h
  subst e1
  have S' := S.step s
  refine ⟨_, G', ps ++ [p], s.ex, S'.putM ?_ (fun hm => absurd h0 (S.new p hm).2) hg hp hd, q⟩
  cases q2 : c.H0 p with
  | none => rfl
  | some o => exact absurd h0 (S.st.live p (by rw [q2]; exact fun z => nomatch z))
theorem tLc_mono {wi : TI} {g : TG} {tt : TT} {te : TE} {vs : List Nat} {σ : L2.St} {H : Hp} {Q Q' : VK} (hw : ∀ σ H (R R' : It → Hp → Prop), wi σ H R → (∀ J H', R J H' → R' J H') → wi σ H R') (h : tLc wi g tt te vs σ H Q) (k : ∀ v H', Q v H' → Q' v H') : tLc wi g tt te vs σ H Q' :=
  hw σ H _ _ h fun J H1 r D hD => by
    obtain ⟨W, w0, hW⟩ := r D hD
    refine ⟨W, w0, fun i m H' w => ?_⟩
    rcases hW i m H' w with ⟨z, q⟩ | z
    · exact .inl ⟨z, k _ _ q⟩
    · exact .inr z
theorem ws_lcL {i : Nat} {y : Str} {py spos : Pos} (ok : BlkOk X.N X.env.scope scope [(x, j)]) (h : LcL X c scope it ifs elt j A P fun ds => D.nx ⟨A.ρ.set i (.own A.μ.length), A.μ ++ [some ds]⟩) (nd : X.N.Nodup) (hg : ∀ (s : Shared) (H : Hp) (C : Addr) (cl : List (Str × Addr)) (fp : List Addr), PG (X.blk s H scope (compEnvC scope cl C X.env) fp) (.Name x px) (gName j))
    (hy : X.N[i]? = some y := by rfl) (hyl : X.env.scope.names.lookup y = some .local := by rfl) (hsw : swapsWith (.ListComp elt [⟨.Name x px, it, ifs, 0⟩] scope pos) (some (.Name y py)) spos.line X.env = pure true := by exact sw_true rfl rfl rfl (by decide +kernel)) (hc : X.calm = true := by rfl) (hs : ∀ x, foldedSetIterable it X.env x = pure x := by intro _; rfl) :
    WS X c (.Assign [.Name y py] (.ListComp elt [⟨.Name x px, it, ifs, 0⟩] scope pos) spos) A D := fun G ps σ H S =>
  wS_of (ps_setLc hc nd hy hyl hsw (pi_list pe_w) ok hg (fun _ _ _ _ _ => bT_ok) (fun _ _ _ _ _ => bE_ok) hs) (tLc_mono (fun σ H R R' h k => wE_mono h fun v H' ⟨a, e, l, r⟩ => ⟨a, e, l, k _ _ r⟩) (lc_readL h S) fun v H' q => setLc_end S q)
theorem ws_lcT {i : Nat} {y : Str} {py spos : Pos} (ok : BlkOk X.N X.env.scope scope [(x, j)]) (h : LcT X c scope it ifs elt j A P fun ds => D.nx ⟨A.ρ.set i (.own A.μ.length), A.μ ++ [some ds]⟩) (nd : X.N.Nodup) (hg : ∀ (s : Shared) (H : Hp) (C : Addr) (cl : List (Str × Addr)) (fp : List Addr), PG (X.blk s H scope (compEnvC scope cl C X.env) fp) (.Name x px) (gName j))
    (hy : X.N[i]? = some y := by rfl) (hyl : X.env.scope.names.lookup y = some .local := by rfl) (hsw : swapsWith (.ListComp elt [⟨.Name x px, it, ifs, 0⟩] scope pos) (some (.Name y py)) spos.line X.env = pure true := by exact sw_true rfl rfl rfl (by decide +kernel)) (hc : X.calm = true := by rfl) (hs : ∀ x, foldedSetIterable it X.env x = pure x := by intro _; rfl) :
    WS X c (.Assign [.Name y py] (.ListComp elt [⟨.Name x px, it, ifs, 0⟩] scope pos) spos) A D := fun G ps σ H S =>
  wS_of (ps_setLc hc nd hy hyl hsw (pi_tup pe_w) ok hg (fun _ _ _ _ _ => bT_ok) (fun _ _ _ _ _ => bE_ok) hs) (tLc_mono (fun σ H R R' h k => wE_mono h fun v H' ⟨a, e, l, r⟩ => ⟨a, e, l, k _ _ r⟩) (lc_readT h S) fun v H' q => setLc_end S q)
theorem ws_lcR {i : Nat} {y : Str} {py spos p2 : Pos} (hm : X.mg "range" = none) (ok : BlkOk X.N X.env.scope scope [(x, j)]) (h : LcR X c scope it ifs elt j A P fun ds => D.nx ⟨A.ρ.set i (.own A.μ.length), A.μ ++ [some ds]⟩) (nd : X.N.Nodup) (hg : ∀ (s : Shared) (H : Hp) (C : Addr) (cl : List (Str × Addr)) (fp : List Addr), PG (X.blk s H scope (compEnvC scope cl C X.env) fp) (.Name x px) (gName j))
    (hy : X.N[i]? = some y := by rfl) (hyl : X.env.scope.names.lookup y = some .local := by rfl) (hsw : swapsWith (.ListComp elt [⟨.Name x px, .Call (.Name "range" p) [it] [] p2, ifs, 0⟩] scope pos) (some (.Name y py)) spos.line X.env = pure true := by exact sw_true rfl rfl rfl (by decide +kernel)) (hc : X.calm = true := by rfl)
    (hgl : Gl X "range" := by rfl) (hst : starEach [it] X.env = (false, eval it X.env) :: starEach [] X.env := by rfl) (hst2 : starEach [it] X.env = [(false, eval it X.env)] := by rfl) (hs : ∀ x, foldedSetIterable (.Call (.Name "range" p) [it] [] p2) X.env x = pure x := by intro _; rfl) :
    WS X c (.Assign [.Name y py] (.ListComp elt [⟨.Name x px, .Call (.Name "range" p) [it] [] p2, ifs, 0⟩] scope pos) spos) A D := fun G ps σ H S =>
  wS_of (ps_setLc hc nd hy hyl hsw (pi_range1 hgl hm (pa_cons pe_w pa_nil hst) hst2) ok hg (fun _ _ _ _ _ => bT_ok) (fun _ _ _ _ _ => bE_ok) hs) (tLc_mono (fun σ H R R' h k => wE_mono h fun v H' ⟨j, e1, e2, e3, r⟩ => ⟨j, e1, e2, e3, k _ _ r⟩) (lc_readR h S) fun v H' q => setLc_end S q)
end

/-! ### names by facts about the list of names -/
section
variable {X : Cx} {c : Ct} {A : AS} {e a b : Expr} {es : List Expr} {pos p : Pos} {Q : PyData → Prop} {st : Stmt} {D : ADs} {N : List Str}
theorem we_nm {i : Nat} {x : Str} {d : PyData} (hN : N[i]? = some x) (eN : X.N = N) (hρ : A.ρ[i]? = some (.dat d)) (hv : Vis X.env.scope x) (hd : ((x == ("__debug__" : Str)) = false) ∧ (x == ("__classdict__" : Str)) = false) (q : Q d) : WE X c (.Name x pos) A Q :=
  we_name hρ q (by rw [eN]; exact hN) hv hd.1 hd.2
theorem wa_pl {Q : List AV → Prop} {x : Str} {i : Nat} (hN : N[i]? = some x) (eN : X.N = N) (hρ : A.ρ[i]? = some .pool) (hv : Vis X.env.scope x) (hd : ((x == ("__debug__" : Str)) = false) ∧ (x == ("__classdict__" : Str)) = false) (hs : starEach (.Name x pos :: es) X.env = (false, eval (.Name x pos) X.env) :: starEach es X.env) (h : WA X c es A fun as => Q (.pool :: as)) : WA X c (.Name x pos :: es) A Q :=
  wa_pool hρ h (by rw [eN]; exact hN) hv hd.1 hd.2 hs
theorem ws_as {i : Nat} {x : Str} {px : Pos} (hN : N[i]? = some x) (eN : X.N = N) (hnd : N.Nodup) (hx : Loc X.env.scope x) (hf : X.fn x = true ∨ X.env.scope.names.lookup x = some .local)
    (hs : swapsWithSole [.Name x px] e pos.line X.env = pure false) (hw : swappedStores [.Name x px] e X.env = pure none) (h1 : (assignEach [.Name x px] X.env).map (·.2) = [assign (.Name x px) X.env]) (h : WE X c e A fun d => D.nx ⟨A.ρ.set i (.dat d), A.μ⟩) : WS X c (.Assign [.Name x px] e pos) A D :=
  ws_asg h (by rw [eN]; exact hN) (by rw [eN]; exact hnd) hx hf hs hw h1
theorem ws_asL {i : Nat} {x : Str} {px : Pos} (hN : N[i]? = some x) (eN : X.N = N) (hnd : N.Nodup) (hx : Loc X.env.scope x) (hf : X.fn x = true ∨ X.env.scope.names.lookup x = some .local)
    (hs : swapsWithSole [.Name x px] e pos.line X.env = pure false) (hw : swappedStores [.Name x px] e X.env = pure none) (h1 : (assignEach [.Name x px] X.env).map (·.2) = [assign (.Name x px) X.env]) (h : WL X c e A fun ds => D.nx ⟨A.ρ.set i (.own A.μ.length), A.μ ++ [some ds]⟩) : WS X c (.Assign [.Name x px] e pos) A D :=
  ws_asgL h (by rw [eN]; exact hN) (by rw [eN]; exact hnd) hx hf hs hw h1
theorem ws_au {i : Nat} {x : Str} {px : Pos} {op : Operator} {d0 : PyData} (hN : N[i]? = some x) (eN : X.N = N) (hnd : N.Nodup) (hρ : A.ρ[i]? = some (.dat d0)) (hx : Loc X.env.scope x) (hf : X.fn x = true ∨ X.env.scope.names.lookup x = some .local)
    (h : WE X c e A fun d1 => OpD X c (inplaceOp op) d0 d1 fun d => D.nx ⟨A.ρ.set i (.dat d), A.μ⟩) : WS X c (.AugAssign (.Name x px) op e pos) A D :=
  ws_aug hρ h (by rw [eN]; exact hN) (by rw [eN]; exact hnd) hx hf
theorem ws_ap {i k : Nat} {x : Str} {px apos cpos : Pos} {ds : List PyData} (hN : N[i]? = some x) (eN : X.N = N) (hρ : A.ρ[i]? = some (.own k)) (hm : A.μ[k]? = some (some ds)) (hz : ds.length < 100000) (hv : Vis X.env.scope x) (hd : ((x == ("__debug__" : Str)) = false) ∧ (x == ("__classdict__" : Str)) = false)
    (hbase : attributeBase (.Name x px) "append" X.env (eval (.Name x px) X.env) = eval (.Name x px) X.env)
    (hfew : ((backTo cpos (starEach [e] X.env)).all (fun x => !x.1) && (backToKw cpos (keywordEach [] X.env)).all (fun x => x.1.isSome) && decide ([e].length + ([] : List Keyword).length + (if ([] : List Keyword).isEmpty then 0 else 1) < 30)) = true)
    (hline : (apos.endLine == cpos.line) = true) (hs : starEach [e] X.env = (false, eval e X.env) :: starEach [] X.env) (hplain : (backTo cpos (starEach [] X.env)).any (·.1) = false)
    (hsw : swapsWith (.Call (.Attribute (.Name x px) "append" apos) [e] [] cpos) none pos.line X.env = pure false)
    (h : WE X c e A fun d => D.nx ⟨A.ρ, A.μ.set k (some (ds ++ [d]))⟩) : WS X c (.Expr (.Call (.Attribute (.Name x px) "append" apos) [e] [] cpos) pos) A D :=
  ws_app hρ hm hz h (by rw [eN]; exact hN) hv hd.1 hd.2 hbase hfew hline hs hplain hsw
theorem wg_nm {i : Nat} {x : Str} {d : PyData} {P : AS → Prop} (hN : N[i]? = some x) (eN : X.N = N) (hnd : N.Nodup) (hx : Loc X.env.scope x) (hf : X.fn x = true ∨ X.env.scope.names.lookup x = some .local) (q : P ⟨A.ρ.set i (.dat d), A.μ⟩) : WG X c (.Name x pos) d A P :=
  wg_name q (by rw [eN]; exact hN) (by rw [eN]; exact hnd) hx hf
theorem ws_rO {i k : Nat} {x : Str} {px : Pos} {ds : List PyData} (hN : N[i]? = some x) (eN : X.N = N) (hρ : A.ρ[i]? = some (.own k)) (hm : A.μ[k]? = some (some ds)) (hv : Vis X.env.scope x) (hd : ((x == ("__debug__" : Str)) = false) ∧ (x == ("__classdict__" : Str)) = false) (q : D.rt (.L ds) A) : WS X c (.Return (some (.Name x px)) pos) A D :=
  ws_retO hρ hm q (by rw [eN]; exact hN) hv hd.1 hd.2
theorem we_iO {i k : Nat} {x : Str} {px : Pos} {ds : List PyData} (hN : N[i]? = some x) (eN : X.N = N) (hρ : A.ρ[i]? = some (.own k)) (hm : A.μ[k]? = some (some ds)) (hv : Vis X.env.scope x) (hd : ((x == ("__debug__" : Str)) = false) ∧ (x == ("__classdict__" : Str)) = false) (hpl : PlainIx b)
    (h : WE X c b A fun d2 => ∃ j d, d2 = .int j ∧ atI ds j = some d ∧ Q d) : WE X c (.Subscript (.Name x px) b pos) A Q :=
  we_ixO hρ hm h (by rw [eN]; exact hN) hv hd.1 hd.2 hpl
theorem we_lO {i k : Nat} {x : Str} {px : Pos} {ds : List PyData} (hm0 : X.mg "len" = none) (hN : N[i]? = some x) (eN : X.N = N) (hρ : A.ρ[i]? = some (.own k)) (hm : A.μ[k]? = some (some ds)) (hv : Vis X.env.scope x) (hd : ((x == ("__debug__" : Str)) = false) ∧ (x == ("__classdict__" : Str)) = false) (hg : Gl X "len")
    (he : starEach [.Name x px] X.env = (false, eval (.Name x px) X.env) :: starEach [] X.env) (hpl : (backTo pos (starEach [] X.env)).any (·.1) = false) (q : Q (.int ds.length)) : WE X c (.Call (.Name "len" p) [.Name x px] [] pos) A Q :=
  we_lenO hm0 hρ hm q (by rw [eN]; exact hN) hv hd.1 hd.2 hg he hpl
end
/-! ### a def by data -/
def svOf : AV → SV
  | .dat d => .dat d
  | .pool => .pool
def entry (N : List Str) (as : List AV) : AS := ⟨as.map svOf ++ List.replicate (N.length - as.length) .any, []⟩
theorem start_ok {K : PySem.W.Frag} {pa : Option Addr} {G H : Hp} {N : List Str} {vs : List V} {as : List AV} (s : Stp K pa G H G H) (h : AsOk K pa G vs as) : St K ⟨H, G, pa, []⟩ (entry N as) G [] (start N vs) H where
  st := s
  len := by
    have e := h.len
    simp [L2.start, entry, e]
  sl := fun i sv e => by
    have e' : (as.map svOf ++ List.replicate (N.length - as.length) SV.any)[i]? = some sv := e
    show SlotOk K pa G [] (vs.map some ++ List.replicate (N.length - vs.length) none)[i]? sv
    have hl := h.len
    by_cases l : i < as.length
    · rw [List.getElem?_append_left (by rw [List.length_map]; exact l), List.getElem?_map] at e'
      rw [List.getElem?_append_left (by rw [List.length_map, hl]; exact l), List.getElem?_map]
      have get : ∀ {vs : List V} {as : List AV} {i : Nat} {a : AV}, AsOk K pa G vs as → as[i]? = some a → ∃ v, vs[i]? = some v ∧ AOk K pa G v a := by
        intro vs
        induction vs with
        | nil => intro as i a h e; cases as with
          | nil => simp at e
          | cons _ _ => exact h.elim
        | cons v vs ih => intro as i a h e; cases as with
          | nil => exact h.elim
          | cons b as => cases i with
            | zero => simp at e; subst e; exact ⟨v, rfl, h.1⟩
            | succ i => exact (ih h.2 (by simpa using e)) |>.imp fun w hw => ⟨by simpa using hw.1, hw.2⟩
      cases q : as[i]? with
      | none => rw [q] at e'; cases e'
      | some a =>
        rw [q] at e'
        have e2 : svOf a = sv := Option.some.inj e'
        subst e2
        obtain ⟨v, hv, ha⟩ := get h q
        rw [hv]
        cases a with
        | dat d => exact ⟨v, rfl, ha⟩
        | pool =>
          obtain ⟨p, hp, e3⟩ := ha
          subst e3
          exact ⟨p, hp, rfl⟩
    · rw [List.getElem?_append_right (by rw [List.length_map]; omega), List.getElem?_replicate] at e'
      split at e'
      · have e2 : SV.any = sv := Option.some.inj e'
        subst e2
        exact True.intro
      · cases e'
  mlen := rfl
  inj := fun i j p hi => by simp at hi
  pre := fun i p hi => by simp at hi
  new := fun p hp => by simp at hp
  mu := fun k p ds hk => by simp at hk
theorem def_ok {P : Program} {w : World} {K : PySem.W.Frag} {mg : Str → Option Value} {base : Heap} {x qual : Str} {st : Stmt} {f : Addr} {fd : FuncData} {N ps : List Str} {k n : Nat} {sp : DSpec} (F : Fun K x qual st f fd) (S : FnScope N ps (defScope st)) (hn : n = ps.length)
    (body : ∀ (cdv : Value) (A : Around) (outer : List Env) (s : Shared) (H : Hp) (E : XK) (c : Ct) (as : List AV) (R : RV → Prop), Room k (A.deeper (envOfC qual (defScope st) s.heap.objs.size f cdv)) → as.length = n → sp as R →
      WB (cxOf CX0 P w K mg base N qual (defScope st) f cdv A outer s H E).nox c (defBody st) (entry N as) { nx := fun _ => R (.D .none), rt := fun r _ => R r }) : FnOk P w K mg base CX0 (k + 1) f fd ps (lift K n sp) := by
  refine F.ok S (fun vs H Q E h => ?_) (fun cdv A outer s H vs Q E hr h => ?_)
  · obtain ⟨G, pa, as, s, h, hl, _⟩ := h
    rw [h.len, hl, hn]
  · obtain ⟨G, pa, as, st0, h, hl, q⟩ := h
    refine ⟨_, pss_w, ?_⟩
    refine wB_mono (body cdv A outer s H E ⟨H, G, pa, []⟩ as _ hr hl q G [] _ H (start_ok st0 h)) ?_ ?_ (fun _ _ z => ?_) fun _ _ z => ?_
    · rintro σ' H' ⟨A', G', ps', e', S', r⟩
      exact r .non G' H' S'.st .non
    · rintro v H' ⟨r, A', G', ps', σ', S', ro, q'⟩
      exact q' v G' H' S'.st ro
    · obtain ⟨_, _, _, _, _, z⟩ := z
      exact z
    · obtain ⟨_, _, _, _, _, z⟩ := z
      exact z
end Eng

set_option Elab.async false
set_option linter.all false
set_option maxRecDepth 100000
set_option maxHeartbeats 2000000
namespace Eng
open PySem PySem.Spec PyProof.Rows L2
open Evl (Ex)
section
variable {X : Cx} {c : Ct} {A : AS} {e a b : Expr} {es : List Expr} {pos p : Pos} {Q : PyData → Prop} {st : Stmt} {sts rest : List Stmt} {D : ADs} {N : List Str}
/-! ### slices of lists -/
def cutP (ds : List PyData) (lo hi : Option Int) : List PyData := (ds.drop (HT.sIx ds.length 0 lo)).take (HT.sIx ds.length ds.length hi - HT.sIx ds.length 0 lo)
theorem dall_drop {K : PySem.W.Frag} {G : Hp} : ∀ {vs : List V} {ds : List PyData} (n : Nat), DpAll K G vs ds → DpAll K G (vs.drop n) (ds.drop n)
  | _, _, 0, h => h
  | _, _, _ + 1, .nil => .nil
  | _, _, n + 1, .cons _ t => dall_drop n t
theorem dall_take {K : PySem.W.Frag} {G : Hp} : ∀ {vs : List V} {ds : List PyData} (n : Nat), DpAll K G vs ds → DpAll K G (vs.take n) (ds.take n)
  | _, _, 0, _ => .nil
  | _, _, _ + 1, .nil => .nil
  | _, _, n + 1, .cons r t => .cons r (dall_take n t)
theorem dall_cut {K : PySem.W.Frag} {G : Hp} {vs : List V} {ds : List PyData} {lo hi : Option Int} (h : DpAll K G vs ds) : DpAll K G (cutV vs lo hi) (cutP ds lo hi) := by
  unfold cutV cutP
  rw [dall_len h]
  exact dall_take _ (dall_drop _ h)
def wO (X : Cx) (e : Option Expr) : TO := fun σ H Q => match e with
  | none => Q none H
  | some x => wE X x σ H fun v H' => ∃ i, v = .int i ∧ Q (some i) H'
def WO (X : Cx) (c : Ct) (e : Option Expr) (A : AS) (Q : Option Int → Prop) : Prop := match e with
  | none => Q none
  | some x => WE X c x A fun d => ∃ i, d = .int i ∧ Q (some i)
theorem wl_sl {lo hi : Option Expr} {p2 : Pos} {Q : List PyData → Prop} (h : WE X c a A fun d => WO X c lo A fun l => WO X c hi A fun u => ∃ ds, d = .list ds ∧ Q (cutP ds l u)) : WL X c (.Subscript a (.Slice lo hi none p2) pos) A Q := fun G ps σ H S => by
  have po : ∀ e : Option Expr, ∃ t, PO X e t ∧ ∀ σ H Q, wO X e σ H Q → t σ H Q := fun e => by
    cases e with
    | none => exact ⟨_, po_none, fun _ _ _ h => h⟩
    | some x => exact ⟨_, po_some pe_w, fun _ _ _ h => h⟩
  obtain ⟨tl, hl, kl⟩ := po lo
  obtain ⟨th, hh, kh⟩ := po hi
  have go : ∀ (e : Option Expr) (P : Option Int → Prop) G σ H (S : St X.K c A G ps σ H), WO X c e A P → wO X e σ H fun o H' => ∃ G', Stp X.K c.pa G H G' H' ∧ P o := fun e P G σ H S w => by
    cases e with
    | none => exact ⟨G, S.refl, w⟩
    | some x => exact wE_mono (w G ps σ H S) fun v H' ⟨G', d, s, r, i, e1, q⟩ => by subst e1; exact ⟨i, dp_int r, G', s, q⟩
  have wOm : ∀ (e : Option Expr) σ H (Q Q' : Option Int → Hp → Prop), wO X e σ H Q → (∀ o H', Q o H' → Q' o H') → wO X e σ H Q' := fun e σ H Q Q' w k => by
    cases e with
    | none => exact k _ _ w
    | some x => exact wE_mono w fun v H' ⟨i, e1, q⟩ => ⟨i, e1, k _ _ q⟩
  refine wE_of (pe_slice sl_list pe_w hl hh) (wE_mono (h G ps σ H S) fun v H1 ⟨G1, d, s1, r1, q1⟩ => ?_)
  have S1 := S.step s1
  refine kl _ _ _ (wOm _ _ _ _ _ (go lo _ G1 σ H1 S1 q1) fun l H2 ⟨G2, s2, q2⟩ => ?_)
  have S2 := S1.step s2
  refine kh _ _ _ (wOm _ _ _ _ _ (go hi _ G2 σ H2 S2 q2) fun u H3 ⟨G3, s3, ds, e1, q⟩ => ?_)
  subst e1
  obtain ⟨p, xs, rfl, hs, ha⟩ := dp_list r1
  have s23 := s2.trans s3
  have s13 := s1.trans s23
  refine ⟨p, xs, rfl, Evl.ex_l (fun b o z => s23.sub b o (s23.ex b o z)) hs, fun q hq => ?_⟩
  refine ⟨G3, _, s13.trans (s13.lay hq), ⟨q, _, rfl, ?_, Evl.fresh_back s13.sub hq, upd_same, dall_cut (dp_upAll s23.ex _ ha)⟩, ‹Q _›⟩
  cases q2 : H q with
  | none => rfl
  | some o => exact absurd hq (s13.live q (by rw [q2]; exact fun z => nomatch z))

/-! ### isinstance of data -/
def IsiD (d : PyData) (cl : String) (Q : PyData → Prop) : Prop := ∃ T bb, tyD d = some T ∧ kitB T cl = some bb ∧ Q (.bool bb)
theorem we_isi {cl : String} {cp : Pos} (hm : X.mg "isinstance" = none) (hm2 : X.mg (Str.ofString cl) = none) (h : WE X c e A fun d => IsiD d cl Q) (hv2 : bootBuiltins (Str.ofString cl) = some (.type cl)) (hg2 : Gl X (Str.ofString cl)) (hn2 : Str.ofString cl ≠ "__name__") (hd2 : (Str.ofString cl == ("__debug__" : Str)) = false)
    (hg : Gl X "isinstance") (hs1 : starEach [e, .Name (Str.ofString cl) cp] X.env = (false, eval e X.env) :: starEach [.Name (Str.ofString cl) cp] X.env) (hs2 : starEach [.Name (Str.ofString cl) cp] X.env = (false, eval (.Name (Str.ofString cl) cp) X.env) :: starEach [] X.env) (hpl : (backTo pos (starEach [.Name (Str.ofString cl) cp] X.env)).any (·.1) = false) (hv : bootBuiltins "isinstance" = some (.builtin "isinstance")) :
    WE X c (.Call (.Name "isinstance" p) [e, .Name (Str.ofString cl) cp] [] pos) A Q := fun G ps σ H S =>
  wE_of (pe_callB call_isi hg hm hv (pa_cons pe_w (pa_cons (pe_bltn hg2 hm2 hv2 (v := .ty cl) rfl hn2 hd2) pa_nil hs2) hs1) (by decide) (by decide) hs1 hpl) (wE_mono (h G ps σ H S) fun v H1 ⟨G1, d, s1, r1, T, bb, e1, e2, q⟩ =>
    ⟨v, .ty cl, .type T, .type cl, bb, rfl, .ty cl, tyX_of s1.sub r1 e1, kit_ty e2, G1, _, s1, .bl bb, q⟩)

/-! ### x[j] = e by facts -/
theorem ws_sO {i k : Nat} {x : Str} {px ipos : Pos} {ds : List PyData} (hN : N[i]? = some x) (eN : X.N = N) (hρ : A.ρ[i]? = some (.own k)) (hm : A.μ[k]? = some (some ds)) (hv : Vis X.env.scope x) (hd : ((x == ("__debug__" : Str)) = false) ∧ (x == ("__classdict__" : Str)) = false)
    (ha : ∀ v, assign (.Subscript (.Name x px) b ipos) X.env v = (do
      let ov ← holding [v] (eval (.Name x px) X.env)
      let iv ← holding [v, ov] (eval b X.env)
      standAt ipos
      holding [v, ov, iv] (setItem ov iv v)
      release [v, ov, iv] []))
    (hs : swapsWithSole [.Subscript (.Name x px) b ipos] e pos.line X.env = pure false) (hw : swappedStores [.Subscript (.Name x px) b ipos] e X.env = pure none) (h1 : (assignEach [.Subscript (.Name x px) b ipos] X.env).map (·.2) = [assign (.Subscript (.Name x px) b ipos) X.env])
    (h : WE X c e A fun d => WE X c b A fun d2 => ∃ j : Nat, d2 = .int j ∧ j < ds.length ∧ D.nx ⟨A.ρ, A.μ.set k (some (ds.set j d))⟩) : WS X c (.Assign [.Subscript (.Name x px) b ipos] e pos) A D :=
  ws_setO hρ hm h (by rw [eN]; exact hN) hv hd.1 hd.2 ha hs hw h1
/-- a list of the pool's shape becomes the pool; what follows is asked of a new beginning -/
theorem ws_pool {i : Nat} {x : Str} {px : Pos} (hN : N[i]? = some x) (eN : X.N = N) (hnd : N.Nodup) (hx : Loc X.env.scope x) (hf : X.fn x = true ∨ X.env.scope.names.lookup x = some .local)
    (hs : swapsWithSole [.Name x px] e pos.line X.env = pure false) (hw : swappedStores [.Name x px] e X.env = pure none) (h1 : (assignEach [.Name x px] X.env).map (·.2) = [assign (.Name x px) X.env])
    (hpa : c.pa = none) (hfx : c.fx = []) (hμ : A.μ = []) (hbk : ∀ A, ¬ D.bk A) (hct : ∀ A, ¬ D.ct A)
    (h : WL X c e A fun ds => ∃ (ns : List Int) (i' c' d' s' : Int), ds = [.list (ns.map .int), .int i', .int c', .int d', .int s'] ∧ 0 ≤ i' ∧ ns.length ≤ 63 ∧ ∀ c2 : Ct, c2.fx = [] → WB X c2 rest ⟨A.ρ.set i .pool, []⟩ { nx := fun _ => ∀ A, D.nx A, rt := fun r _ => ∀ A, D.rt r A }) :
    WB X c (.Assign [.Name x px] e pos :: rest) A D := fun G ps σ H S => by
  refine wB_of (pss_cons (ps_asg pe_w (pg_name (by rw [eN]; exact hnd) (by rw [eN]; exact hN) hx hf) hs hw h1) pss_w) (wE_mono (h G ps σ H S) fun v H1 ⟨G1, ds, s, ⟨p, xs, e1, h0, hg, hp, hd⟩, ns, i', c', d', s', e2, b1, b2, k⟩ => ?_)
  subst e1
  subst e2
  have S1 := S.step s
  have nops : ps = [] := by
    have := S.mlen
    rw [hμ] at this
    exact List.eq_nil_of_length_eq_zero this
  subst nops
  have pok : PoolOk X.K G1 H1 p := by
    cases hd with
    | cons q1 t1 => cases t1 with
      | cons q2 t2 => cases t2 with
        | cons q3 t3 => cases t3 with
          | cons q4 t4 => cases t4 with
            | cons q5 t5 =>
              cases t5
              cases q2; cases q3; cases q4; cases q5
              obtain ⟨l, ys, e3, hl, hy⟩ := dp_list q1
              subst e3
              rw [dall_ints_inv hy] at hl
              exact ⟨l, ns, i', c', d', s', hp, hl, b1, b2⟩
  have hne : H1 p ≠ none := pok.ne
  have St2 : Stp X.K (some p) G1 H1 G1 H1 := ⟨Ex.refl _, fun _ _ z => z, fun _ _ _ z => z, S1.st.sub, fun a ha => by
    have ea : p = a := Option.some.inj ha
    subst ea
    exact ⟨hne, hg, pok⟩⟩
  have S2 : St X.K ⟨H1, G1, some p, []⟩ ⟨A.ρ.set i .pool, []⟩ G1 [] (σ.set i (some (.ref p))) H1 := by
    refine ⟨St2, by show (σ.set i (some (V.ref p))).length = (A.ρ.set i SV.pool).length; rw [List.length_set, List.length_set]; exact S.len, fun j sv e => ?_, rfl, fun i j p hi => by simp at hi, fun i p hi => by simp at hi, fun p hp => by simp at hp, fun k p ds hk => by simp at hk⟩
    have e' : (A.ρ.set i .pool)[j]? = some sv := e
    show SlotOk X.K (some p) G1 [] (σ.set i (some (V.ref p)))[j]? sv
    by_cases z : i = j
    · subst z
      rw [List.getElem?_set_self'] at e'
      have hl : i < A.ρ.length := by
        cases q : A.ρ[i]? with
        | none => rw [q] at e'; cases e'
        | some y => exact (List.getElem?_eq_some_iff.mp q).1
      rw [List.getElem?_eq_getElem hl] at e'
      have e2 : SV.pool = sv := Option.some.inj e'
      subst e2
      exact ⟨p, rfl, by rw [List.getElem?_set_self (by rw [S.len]; exact hl)]⟩
    · rw [List.getElem?_set_ne z] at e' ⊢
      have old := S1.sl j sv e'
      cases sv with
      | dat d => exact old
      | own k =>
        obtain ⟨q, hq, _⟩ := old
        simp at hq
      | pool =>
        obtain ⟨a, ha, _⟩ := old
        rw [hpa] at ha
        cases ha
      | any => exact True.intro
  have back : ∀ {G' H'}, Stp X.K (some p) G1 H1 G' H' → Stp X.K c.pa c.B0 c.H0 G' H' := fun {G' H'} t => by
    have s0 := S1.st
    have n0 : c.H0 p = none := by
      cases q : c.H0 p with
      | none => rfl
      | some o => exact absurd h0 (S.st.live p (by rw [q]; exact fun z => nomatch z))
    refine ⟨s0.ex.trans t.ex, fun b hb g => t.fr b (s0.live b hb) (s0.fr b hb g), fun b o hb q => t.keep b o (fun z => ?_) (s0.keep b o hb q), t.sub, fun a ha => by rw [hpa] at ha; cases ha⟩
    have ez : p = b := Option.some.inj z
    subst ez
    rw [n0] at q
    cases q
  refine wB_mono (k ⟨H1, G1, some p, []⟩ rfl G1 [] _ H1 S2) (fun σ' H' ⟨A', G', ps', e', S', q⟩ => ?_) (fun v H' ⟨r, A', G', ps', σ', S', ro, q⟩ => ?_) (fun σ' H' ⟨A', G', ps', e', S', q⟩ => q.elim) (fun σ' H' ⟨A', G', ps', e', S', q⟩ => q.elim)
  · refine ⟨⟨σ'.map fun _ => .any, []⟩, G', [], s.ex.trans e', ⟨back S'.st, by show σ'.length = (σ'.map _).length; rw [List.length_map], fun j sv e => ?_, rfl, fun i j p hi => by simp at hi, fun i p hi => by rw [hfx] at hi; simp at hi, fun p hp => by simp at hp, fun k p ds hk => by simp at hk⟩, q _⟩
    have e' : (σ'.map fun _ => SV.any)[j]? = some sv := e
    rw [List.getElem?_map] at e'
    cases q2 : σ'[j]? with
    | none => rw [q2] at e'; cases e'
    | some y =>
      rw [q2] at e'
      have e3 : SV.any = sv := Option.some.inj e'
      subst e3
      exact True.intro
  · refine ⟨r, ⟨σ'.map fun _ => .any, []⟩, G', [], σ', ⟨back S'.st, by show σ'.length = (σ'.map _).length; rw [List.length_map], fun j sv e => ?_, rfl, fun i j p hi => by simp at hi, fun i p hi => by rw [hfx] at hi; simp at hi, fun p hp => by simp at hp, fun k p ds hk => by simp at hk⟩, ?_, q _⟩
    · have e' : (σ'.map fun _ => SV.any)[j]? = some sv := e
      rw [List.getElem?_map] at e'
      cases q2 : σ'[j]? with
      | none => rw [q2] at e'; cases e'
      | some y =>
        rw [q2] at e'
        have e3 : SV.any = sv := Option.some.inj e'
        subst e3
        exact True.intro
    · cases r with
      | D d => exact ro
      | L ds => exact ro.back fun b hb => S1.st.live b hb
end
/-! ### a def that changes the pool it is given -/
theorem def_pool {P : Program} {w : World} {K : PySem.W.Frag} {mg : Str → Option Value} {base : Heap} {x qual : Str} {st : Stmt} {f : Addr} {fd : FuncData} {N ps : List Str} {k : Nat} (F : Fun K x qual st f fd) (S : FnScope N ps (defScope st)) (hn : ps.length = 2) {ok : Int → Prop}
    (body : ∀ (cdv : Value) (A : Around) (outer : List Env) (s : Shared) (H : Hp) (E : XK) (c : Ct) (many : Int) (ns : List Int) (i c0 d s0 : Int), Room k (A.deeper (envOfC qual (defScope st) s.heap.objs.size f cdv)) → ok many → ns.length ≤ 63 → 0 ≤ i →
      WB (cxOf CX0 P w K mg base N qual (defScope st) f cdv A outer s H E).nox c (defBody st) ⟨[.own 0, .dat (.int many)] ++ List.replicate (N.length - 2) .any, [some [.list (ns.map .int), .int i, .int c0, .int d, .int s0]]⟩
        { nx := fun _ => False, rt := fun r A => ∃ n : Int, r = .D (.int n) ∧ 0 ≤ n ∧ n < many ∧ ∃ i' c' d' s' : Int, A.μ[0]? = some (some [.list (ns.map .int), .int i', .int c', .int d', .int s']) ∧ 0 ≤ i' }) :
    FnOk P w K mg base CX0 (k + 1) f fd ps (lift K 2 fun as Q => ∃ many : Int, as = [.pool, .dat (.int many)] ∧ ok many ∧ ∀ v : Int, 0 ≤ v → v < many → Q (.D (.int v))) := by
  refine F.ok S (fun vs H Q E h => ?_) (fun cdv A outer s H vs Q E hr h => ?_)
  · obtain ⟨G, pa, as, s, h, hl, _⟩ := h
    rw [h.len, hl, hn]
  · obtain ⟨G, pa, as, st0, h, hl, many, rfl, hok, q⟩ := h
    match vs, h with
    | [v0, v1], ⟨⟨a, ha, e0⟩, r1, _⟩ =>
    subst e0
    subst ha
    obtain ⟨ne, gn, l, ns, i, c0, d, s0, hp, hl2, hi, hns⟩ := st0.pool a rfl
    refine ⟨_, pss_w, ?_⟩
    have e1 : v1 = .int many := dp_int r1
    subst e1
    have hne : (fun b => if b = a then none else H b : Hp) a = none := if_pos rfl
    have stp0 : Stp K none G (fun b => if b = a then none else H b) G H := ⟨Ex.refl _, fun _ _ z => z, fun b o _ z => by
      by_cases zb : b = a
      · rw [if_pos zb] at z; cases z
      · rw [if_neg zb] at z; exact z, st0.sub, fun _ z => nomatch z⟩
    have S0 : St K ⟨fun b => if b = a then none else H b, G, none, [a]⟩ ⟨[.own 0, .dat (.int many)] ++ List.replicate (N.length - 2) .any, [some [.list (ns.map .int), .int i, .int c0, .int d, .int s0]]⟩ G [a] (L2.start N [.ref a, .int many]) H := by
      refine ⟨stp0, ?_, fun j sv e => ?_, rfl, fun i j p hi hj => ?_, fun i p hi => hi, fun p hp' => ?_, fun k' p ds hk hm => ?_⟩
      · show (L2.start N [V.ref a, V.int many]).length = ([SV.own 0, SV.dat (.int many)] ++ List.replicate (N.length - 2) SV.any).length
        simp [L2.start]
      · have e' : ([SV.own 0, SV.dat (.int many)] ++ List.replicate (N.length - 2) SV.any)[j]? = some sv := e
        show SlotOk K none G [a] ([some (V.ref a), some (V.int many)] ++ List.replicate (N.length - 2) none)[j]? sv
        match j, e' with
        | 0, e' =>
          have e2 : SV.own 0 = sv := Option.some.inj e'
          subst e2
          exact ⟨a, rfl, rfl⟩
        | 1, e' =>
          have e2 : SV.dat (.int many) = sv := Option.some.inj e'
          subst e2
          exact ⟨_, rfl, .int many⟩
        | j + 2, e' =>
          have e2 : (List.replicate (N.length - 2) SV.any)[j]? = some sv := e'
          rw [List.getElem?_replicate] at e2
          split at e2
          · have e3 : SV.any = sv := Option.some.inj e2
            subst e3
            exact True.intro
          · cases e2
      · have one : ∀ {i : Nat} {p : Addr}, [a][i]? = some p → i = 0 := fun {i p} h => by
          cases i with
          | zero => rfl
          | succ n => simp at h
        rw [one hi, one hj]
      · have e2 : p = a := by simpa using hp'
        subst e2
        exact ⟨hne, by rw [hp]; exact fun z => nomatch z⟩
      · cases k' with
        | succ n => simp at hk
        | zero =>
          have e2 : a = p := Option.some.inj hk
          have e3 : [PyData.list (ns.map .int), .int i, .int c0, .int d, .int s0] = ds := Option.some.inj (Option.some.inj hm)
          subst e2; subst e3
          exact ⟨gn, _, hp, .cons (.lst hl2 dall_ints) (.cons (.int _) (.cons (.int _) (.cons (.int _) (.cons (.int _) .nil))))⟩
    refine wB_mono (body cdv A outer s H E _ many ns i c0 d s0 hr hok hns hi G [a] _ H S0) ?_ ?_ (fun _ _ z => ?_) fun _ _ z => ?_
    · rintro σ' H' ⟨A', G', ps', e', S', r⟩
      exact r.elim
    · rintro v H' ⟨r, A', G', ps', σ', S', ro, n, rfl, hn0, hn1, i', c', d', s', hμ, hi'⟩
      have hk : ps'[0]? = some a := S'.pre 0 a rfl
      obtain ⟨g', xs, hx, ha⟩ := S'.mu 0 a _ hk hμ
      refine q n hn0 hn1 v G' H' ⟨S'.st.ex, fun b hb g => ?_, fun b o hb z => S'.st.keep b o (fun y => nomatch y) ?_, S'.st.sub, fun a' ha' => ?_⟩ ro
      · by_cases zb : b = a
        · subst zb; exact g'
        · exact S'.st.fr b (by show (if b = a then none else H b) ≠ none; rw [if_neg zb]; exact hb) g
      · show (if b = a then none else H b) = some o
        rw [if_neg (fun y => hb (by rw [y]))]
        exact z
      · have ea : a = a' := Option.some.inj ha'
        subst ea
        refine ⟨ne, g', ?_⟩
        cases ha with
        | cons q1 t1 => cases t1 with
          | cons q2 t2 => cases t2 with
            | cons q3 t3 => cases t3 with
              | cons q4 t4 => cases t4 with
                | cons q5 t5 =>
                  cases t5
                  cases q2; cases q3; cases q4; cases q5
                  obtain ⟨l', ys, e3, hl3, hy⟩ := dp_list q1
                  subst e3
                  rw [dall_ints_inv hy] at hl3
                  exact ⟨l', ns, i', c', d', s', hx, hl3, hi', hns⟩
    · obtain ⟨_, _, _, _, _, z⟩ := z
      exact z
    · obtain ⟨_, _, _, _, _, z⟩ := z
      exact z
/-! ### own lists lent: an expression that changes nothing reads them as data -/
def bor (μ : List (Option (List PyData))) : SV → SV
  | .dat d => .dat d
  | .own k => match μ[k]? with
    | some (some ds) => .dat (.list ds)
    | _ => .any
  | .pool => .any
  | .any => .any
def AS.bor (A : AS) : AS := ⟨A.ρ.map (Eng.bor A.μ), []⟩
def flat : PyData → Bool
  | .none => true | .bool _ => true | .int _ => true | .str _ => true | _ => false
theorem flat_ok {K : PySem.W.Frag} {G G' : Hp} {v : V} {d : PyData} (f : flat d = true) (h : Dp K G v d) : Dp K G' v d := by
  cases h with
  | non => exact .non
  | bl b => exact .bl b
  | int b => exact .int b
  | str b => exact .str b
  | lst a b => cases f
  | tup a b => cases f
theorem flat_all {K : PySem.W.Frag} {G G' : Hp} : ∀ {vs : List V} {ds : List PyData}, ds.all flat = true → DpAll K G vs ds → DpAll K G' vs ds
  | _, [], _, h => by cases h; exact .nil
  | _, d :: ds, f, h => by
    rw [List.all_cons, Bool.and_eq_true] at f
    cases h with
    | cons h1 h2 => exact .cons (flat_ok f.1 h1) (flat_all f.2 h2)
theorem St.bor {K : PySem.W.Frag} {c : Ct} {A : AS} {G : Hp} {ps : List Addr} {σ : L2.St} {H : Hp} (S : St K c A G ps σ H) : St K ⟨H, H, none, []⟩ A.bor H [] σ H := by
  refine ⟨⟨Ex.refl _, fun _ h g => absurd g h, fun _ _ _ h => h, Ex.refl _, fun _ z => nomatch z⟩, ?_, fun i sv e => ?_, rfl, fun i j p hi => by simp at hi, fun i p hi => by simp at hi, fun p hp => by simp at hp, fun k p ds hk => by simp at hk⟩
  · show σ.length = (A.ρ.map _).length
    rw [List.length_map]; exact S.len
  · have e' : (A.ρ.map (Eng.bor A.μ))[i]? = some sv := e
    rw [List.getElem?_map] at e'
    cases q : A.ρ[i]? with
    | none => rw [q] at e'; cases e'
    | some s0 =>
      rw [q] at e'
      have e2 : Eng.bor A.μ s0 = sv := Option.some.inj e'
      subst e2
      have old := S.sl i s0 q
      cases s0 with
      | dat d =>
        obtain ⟨v, h1, h2⟩ := old
        exact ⟨v, h1, dp_up S.st.sub d h2⟩
      | pool => exact True.intro
      | any => exact True.intro
      | own k =>
        obtain ⟨p, hp, hs⟩ := old
        show SlotOk K none H [] σ[i]? (match A.μ[k]? with | some (some ds) => SV.dat (.list ds) | _ => SV.any)
        cases q2 : A.μ[k]? with
        | none => exact True.intro
        | some o =>
          cases o with
          | none => exact True.intro
          | some ds =>
            obtain ⟨g, xs, hx, ha⟩ := S.mu k p ds hp q2
            exact ⟨.ref p, hs, .lst (.inl (.inl hx)) (dp_upAll S.st.sub _ ha)⟩
theorem lent {K : PySem.W.Frag} {c : Ct} {A : AS} {G : Hp} {ps : List Addr} {σ : L2.St} {H G2 H2 : Hp} (S : St K c A G ps σ H) (s : Stp K none H H G2 H2) : Stp K c.pa G H G H2 :=
  ⟨Ex.refl _, fun _ _ g => g, fun b o _ h => s.keep b o (fun z => nomatch z) h, fun b o h => s.keep b o (fun z => nomatch z) (S.st.sub b o h), fun a ha => by
    obtain ⟨z1, z2, z3⟩ := S.st.pool a ha
    refine ⟨z3.ne, z2, ?_⟩
    obtain ⟨l, ns, i, cc, d, s0, h1, h2, h3⟩ := z3
    exact ⟨l, ns, i, cc, d, s0, s.keep a _ (fun z => nomatch z) h1, h2, h3⟩⟩
theorem we_bor {X : Cx} {c : Ct} {A : AS} {e : Expr} {Q : PyData → Prop} (h : ∀ c2 : Ct, WE X c2 e A.bor fun d => flat d = true ∧ Q d) : WE X c e A Q := fun G ps σ H S =>
  wE_mono (h ⟨H, H, none, []⟩ H [] σ H S.bor) fun v H2 ⟨G2, d, s, r, f, q⟩ => ⟨G, d, lent S s, flat_ok f r, q⟩
theorem wt_bor {X : Cx} {c : Ct} {A : AS} {e : Expr} {Q : Bool → Prop} (h : ∀ c2 : Ct, WT X c2 e A.bor Q) : WT X c e A Q := fun G ps σ H S =>
  wT_mono (h ⟨H, H, none, []⟩ H [] σ H S.bor) fun b H2 ⟨G2, s, q⟩ => ⟨G, lent S s, q⟩
theorem wl_bor {X : Cx} {c : Ct} {A : AS} {e : Expr} {Q : List PyData → Prop} (h : ∀ c2 : Ct, WL X c2 e A.bor fun ds => ds.all flat = true ∧ Q ds) : WL X c e A Q := fun G ps σ H S =>
  wE_mono (h ⟨H, H, none, []⟩ H [] σ H S.bor) fun v H2 ⟨G2, ds, s, ⟨p, xs, e1, h0, hg, h1, hd⟩, f, q⟩ => by
    refine ⟨G, ds, lent S s, ⟨p, xs, e1, h0, ?_, h1, flat_all f hd⟩, q⟩
    cases z : G p with
    | none => rfl
    | some o => exact absurd (S.st.sub p o z) (by rw [h0]; exact fun y => nomatch y)
theorem wb_cut {X : Cx} {c : Ct} {A : AS} {st : Stmt} {rest : List Stmt} {D : ADs} (M : AS → Prop) (h : WS X c st A { D with nx := M }) (k : ∀ A', M A' → WB X c rest A' D) : WB X c (st :: rest) A D :=
  wb_cons fun G ps σ H S pins s I => thn (h G ps σ H S pins s I) fun f s' q => by
    cases f with
    | next =>
      obtain ⟨σ', H', I', A', G', ps', e, S', q⟩ := q
      exact ⟨σ', H', I', A', G', ps', e, S', k A' q⟩
    | ret v => exact q
    | brk => exact q
    | cont => exact q
theorem ixo_go {ds : List PyData} {j : Int} {d : PyData} {Q : PyData → Prop} (h : atI ds j = some d) (q : Q d) : ∃ j' d, PyData.int j = .int j' ∧ atI ds j' = some d ∧ Q d := ⟨j, d, rfl, h, q⟩
theorem yes_go {P R : Prop} (p : P) : (true = true → P) ∧ (true = false → R) := ⟨fun _ => p, fun z => (nomatch z)⟩
theorem no_go {P R : Prop} (r : R) : (false = true → P) ∧ (false = false → R) := ⟨fun z => (nomatch z), fun _ => r⟩
def is_tup : PyData → Bool
  | .tuple _ => true
  | _ => false
theorem isi_tup {d : PyData} {Q : PyData → Prop} (h : (tyD d).isSome = true) (q : Q (.bool (is_tup d))) : IsiD d "tuple" Q := by
  cases d with
  | dict _ => cases h
  | none => exact ⟨"NoneType", false, rfl, by decide +kernel, q⟩
  | bool _ => exact ⟨"bool", false, rfl, by decide +kernel, q⟩
  | int _ => exact ⟨"int", false, rfl, by decide +kernel, q⟩
  | str _ => exact ⟨"str", false, rfl, by decide +kernel, q⟩
  | list _ => exact ⟨"list", false, rfl, by decide +kernel, q⟩
  | tuple _ => exact ⟨"tuple", true, rfl, by decide +kernel, q⟩
def is_lst : PyData → Bool
  | .list _ => true
  | _ => false
theorem isi_lst {d : PyData} {Q : PyData → Prop} (h : (tyD d).isSome = true) (q : Q (.bool (is_lst d))) : IsiD d "list" Q := by
  cases d with
  | dict _ => cases h
  | none => exact ⟨"NoneType", false, rfl, by decide +kernel, q⟩
  | bool _ => exact ⟨"bool", false, rfl, by decide +kernel, q⟩
  | int _ => exact ⟨"int", false, rfl, by decide +kernel, q⟩
  | str _ => exact ⟨"str", false, rfl, by decide +kernel, q⟩
  | list _ => exact ⟨"list", true, rfl, by decide +kernel, q⟩
  | tuple _ => exact ⟨"tuple", false, rfl, by decide +kernel, q⟩
def is_boo : PyData → Bool
  | .bool _ => true
  | _ => false
theorem isi_boo {d : PyData} {Q : PyData → Prop} (h : (tyD d).isSome = true) (q : Q (.bool (is_boo d))) : IsiD d "bool" Q := by
  cases d with
  | dict _ => cases h
  | none => exact ⟨"NoneType", false, rfl, by decide +kernel, q⟩
  | bool _ => exact ⟨"bool", true, rfl, by decide +kernel, q⟩
  | int _ => exact ⟨"int", false, rfl, by decide +kernel, q⟩
  | str _ => exact ⟨"str", false, rfl, by decide +kernel, q⟩
  | list _ => exact ⟨"list", false, rfl, by decide +kernel, q⟩
  | tuple _ => exact ⟨"tuple", false, rfl, by decide +kernel, q⟩
def is_str : PyData → Bool
  | .str _ => true
  | _ => false
theorem isi_str {d : PyData} {Q : PyData → Prop} (h : (tyD d).isSome = true) (q : Q (.bool (is_str d))) : IsiD d "str" Q := by
  cases d with
  | dict _ => cases h
  | none => exact ⟨"NoneType", false, rfl, by decide +kernel, q⟩
  | bool _ => exact ⟨"bool", false, rfl, by decide +kernel, q⟩
  | int _ => exact ⟨"int", false, rfl, by decide +kernel, q⟩
  | str _ => exact ⟨"str", true, rfl, by decide +kernel, q⟩
  | list _ => exact ⟨"list", false, rfl, by decide +kernel, q⟩
  | tuple _ => exact ⟨"tuple", false, rfl, by decide +kernel, q⟩
def is_int : PyData → Bool
  | .int _ => true
  | .bool _ => true
  | _ => false
theorem isi_int {d : PyData} {Q : PyData → Prop} (h : (tyD d).isSome = true) (q : Q (.bool (is_int d))) : IsiD d "int" Q := by
  cases d with
  | dict _ => cases h
  | none => exact ⟨"NoneType", false, rfl, by decide +kernel, q⟩
  | bool _ => exact ⟨"bool", true, rfl, by decide +kernel, q⟩
  | int _ => exact ⟨"int", true, rfl, by decide +kernel, q⟩
  | str _ => exact ⟨"str", false, rfl, by decide +kernel, q⟩
  | list _ => exact ⟨"list", false, rfl, by decide +kernel, q⟩
  | tuple _ => exact ⟨"tuple", false, rfl, by decide +kernel, q⟩
theorem set_go (j : Nat) {i : Int} {n : Nat} {P : Nat → Prop} (e : i = (j : Int)) (h : Nat.blt j n = true) (p : P j) : ∃ j' : Nat, PyData.int i = .int (j' : Int) ∧ j' < n ∧ P j' := ⟨j, by rw [e], Nat.blt_eq.mp h, p⟩
theorem at_ints {ns : List Int} {i : Int} (h0 : 0 ≤ i) (h1 : i < ns.length) : ∃ n, atI (ns.map PyData.int) i = some (.int n) := by
  obtain ⟨k, rfl⟩ := Int.eq_ofNat_of_zero_le h0
  have hk : k < ns.length := by omega
  exact ⟨ns[k], atI_nat (by rw [List.getElem?_map, List.getElem?_eq_getElem hk]; rfl)⟩
theorem we_cl {X : Cx} {c : Ct} {A : AS} {e : Expr} {es : List Expr} {pos p : Pos} {Q : PyData → Prop} {P : Program} {w : World} {K : PySem.W.Frag} {mg : Str → Option Value} {base : Heap} {x : Str} {n lev : Nat} {sp : DSpec} (C : Callee P w K mg base lev x n sp) (he : X.prog = P ∧ X.w = w ∧ X.K = K ∧ X.mg = mg ∧ X.base = base) (hr : Room lev X.A) (hg : Gl X x)
    (hdb : (x == ("__debug__" : Str)) = false) (hs : starEach (e :: es) X.env = (false, eval e X.env) :: starEach es X.env) (hpl : (backTo pos (starEach es X.env)).any (·.1) = false) (h : WA X c (e :: es) A fun as => as.length = n ∧ sp as fun r => Q r.frz) : WE X c (.Call (.Name x p) (e :: es) [] pos) A Q := by
  obtain ⟨rfl, rfl, rfl, rfl, rfl⟩ := he
  exact we_call C hr h hg hdb hs hpl
theorem wl_cl {X : Cx} {c : Ct} {A : AS} {e : Expr} {es : List Expr} {pos p : Pos} {Q : List PyData → Prop} {P : Program} {w : World} {K : PySem.W.Frag} {mg : Str → Option Value} {base : Heap} {x : Str} {n lev : Nat} {sp : DSpec} (C : Callee P w K mg base lev x n sp) (he : X.prog = P ∧ X.w = w ∧ X.K = K ∧ X.mg = mg ∧ X.base = base) (hr : Room lev X.A) (hg : Gl X x)
    (hdb : (x == ("__debug__" : Str)) = false) (hs : starEach (e :: es) X.env = (false, eval e X.env) :: starEach es X.env) (hpl : (backTo pos (starEach es X.env)).any (·.1) = false) (h : WA X c (e :: es) A fun as => as.length = n ∧ sp as fun r => ∃ ds, r = .L ds ∧ Q ds) : WL X c (.Call (.Name x p) (e :: es) [] pos) A Q := by
  obtain ⟨rfl, rfl, rfl, rfl, rfl⟩ := he
  exact wl_call C hr h hg hdb hs hpl
/-- what the law is asked: True, for every script -/
def spLaw (K : PySem.W.Frag) : Sp := fun vs H Q _ => ∃ (a : Addr) (ns : List Int), vs = [.ref a] ∧ SqL K H a (ns.map V.int) ∧ ns.length ≤ 63 ∧ ∀ H', Q (.bl true) H'
theorem def_law {P : Program} {w : World} {K : PySem.W.Frag} {mg : Str → Option Value} {base : Heap} {x qual : Str} {st : Stmt} {f : Addr} {fd : FuncData} {N : List Str} {k : Nat} (F : Fun K x qual st f fd) (S : FnScope N ["script"] (defScope st))
    (body : ∀ (cdv : Value) (A : Around) (outer : List Env) (s : Shared) (H : Hp) (E : XK) (c : Ct) (ns : List Int), Room k (A.deeper (envOfC qual (defScope st) s.heap.objs.size f cdv)) → c.pa = none → c.fx = [] → ns.length ≤ 63 →
      WB (cxOf CX0 P w K mg base N qual (defScope st) f cdv A outer s H E).nox c (defBody st) (entry N [.dat (.list (ns.map .int))]) { nx := fun _ => False, rt := fun r _ => r = .D (.bool true) }) : FnOk P w K mg base CX0 (k + 1) f fd ["script"] (spLaw K) := by
  refine F.ok S (fun vs H Q E h => ?_) (fun cdv A outer s H vs Q E hr h => ?_)
  · obtain ⟨a, ns, rfl, _⟩ := h
    rfl
  · obtain ⟨a, ns, rfl, hS, hl, q⟩ := h
    refine ⟨_, pss_w, ?_⟩
    have st0 : Stp K none H H H H := ⟨Ex.refl _, fun _ h g => absurd g h, fun _ _ _ h => h, Ex.refl _, fun _ z => nomatch z⟩
    refine wB_mono (body cdv A outer s H E ⟨H, H, none, []⟩ ns hr rfl rfl hl H [] _ H (start_ok (as := [.dat (.list (ns.map .int))]) st0 ⟨.lst hS dall_ints, True.intro⟩)) ?_ ?_ (fun _ _ z => ?_) fun _ _ z => ?_
    · rintro σ' H' ⟨A', G', ps', e', S', r⟩
      exact r.elim
    · rintro v H' ⟨r, A', G', ps', σ', S', ro, e⟩
      subst e
      rw [dp_bl ro]
      exact q H'
    · obtain ⟨_, _, _, _, _, z⟩ := z
      exact z
    · obtain ⟨_, _, _, _, _, z⟩ := z
      exact z
end Eng

set_option Elab.async false
set_option linter.all false
set_option maxRecDepth 100000
set_option maxHeartbeats 2000000
namespace Eng
open PySem PySem.Spec PyProof.Rows L2
open Builtin
/-- the binary digits of an int that is not negative, as a text -/
def binS (n : Nat) : Str := ⟨((Nat.toDigits 2 n).map Char.toNat).toArray⟩
def bF : Builtin.Float.FormatSpec := { fill := 32, align := 62, type := some 98 }
theorem bF_parse : Builtin.Float.parseFormatSpec (Str.ofString "b").cps.toList "int" 62 = .ok bF := by rfl
theorem bin_text (n : Nat) : ({ cps := ((if (n : Int) < 0 then [45] else []) ++ List.map (fun c : Char => c.toNat) (Nat.toDigits 2 n)).toArray } : Str) = binS n := by
  rw [if_neg (by omega)]
  rfl
theorem le_of_str {a b : Str} {n : Nat} (e : a = b) (h : b.length ≤ n) : a.length ≤ n := by rw [e]; exact h
section
variable {prog : Program} {w : World} {A : Around} {E : Value → Shared → Prop} {s : Shared}
theorem formatField_bin {n : Nat} {t : Tok} {Q : Value → Shared → Prop} (hlen : (binS n).length ≤ sizeLine) (h : ∀ t' k, Q (.str (binS n) t') { s with toks := k }) : wpAny (model prog w) A (formatField (.int (n : Int) t) (Str.ofString "b")) Q E s := by
  have hne : ((Str.ofString "b").length == 0) = false := by decide +kernel
  have hasc : (((Str.ofString "b").cps.toList.drop 1).any (· ≥ 128) || ((Str.ofString "b").cps.getD 0 0 ≥ 128 && !([60, 62, 61, 94] : List Nat).contains ((Str.ofString "b").cps.getD 1 0))) = false := by decide +kernel
  show wpAny _ _ (holding [.int (n : Int) t] (pyFormat (.int (n : Int) t) (Str.ofString "b"))) Q E s
  refine wpAny_holding ?_
  unfold pyFormat
  refine wpAny_bind (wpAny_mkStr ?_ (by decide +kernel))
  refine wpAny_bind (m := callSpecial? (.int (n : Int) t) (Str.ofString "__format__") [.str (Str.ofString "b") s.toks]) (wpAny_callSpecial?_slot (name := Str.ofString "__format__") (typeIs_int _ _ t) slot_int_format ?_)
  refine wpAny_call (codeAny_call_builtin slot_int_format.plain entry_int_format (slot_int_format.check _ _ _ _ _ _ _ _ (typeIs_int _ _ t) (args_int_format _ _) ?_))
  unfold Builtin.«int.__format__»
  simp only [selfAndOne, noKeywords, Int.intOfSelf, asInt?, asStr?, List.isEmpty_nil, if_true, pure_bind, bind_pure, bind_assoc, hne, hasc, Bool.false_eq_true, if_false,
    show (Value.str (Str.ofString "b") s.toks == Value.none) = false from rfl]
  refine wpAny_bind (wpAny_typeNameOf (T := "str") (typeIs_str _ _ _) (by decide) fun _ => ?_)
  refine wpAny_bind (wpAny_typeNameOfCut_int ?_)
  simp only [bF_parse]
  rw [if_pos (by decide +kernel)]
  show wpAny _ _ (retStr _) _ _ _
  unfold retStr
  refine wpAny_bind (wpAny_mkStr (wpAny_pure ?_) ?hs2)
  case hs2 =>
    refine le_of_str ?_ hlen
    conv => lhs; whnf
    simp [bF]
    exact bin_text n
  dsimp only
  refine wpAny_bind (wpAny_isInstance (typeIs_str _ _ _) isSubtype_str_str (wpAny_pure ?_))
  refine (show ∀ z, z = binS n → Q (.str z _) _ from fun z e => by rw [e]; exact h _ _) _ ?_
  conv => lhs; whnf
  simp [bF]
  exact bin_text n
end
/-! ### how many ones -/
open StrLaws in
theorem occ_go (x : Str) (c : Nat) : ∀ (n lo : Nat) (acc : Array Nat) (free : Nat), lo + n = x.length + 1 → acc.size ≤ lo → free ≤ lo →
    (forIn (List.range' lo n) (acc, free) (occBody x ⟨#[c]⟩ x.length (x.length + 1))).run.fst.size = acc.size + (x.cps.toList.drop lo).count c
  | 0, lo, acc, free, h, _, _ => by
    have hl : x.cps.toList.length = x.length := by simp [Str.length]
    rw [List.drop_eq_nil_of_le (by omega)]
    rfl
  | n + 1, lo, acc, free, h, h1, h2 => by
    have hl : x.cps.toList.length = x.length := by simp [Str.length]
    rw [List.range'_succ, List.forIn_cons]
    unfold occBody
    have key := subAt_one x c lo
    by_cases hc : x.cps.toList[lo]? = some c
    · obtain ⟨k1, k2⟩ := key.mpr hc
      rw [if_pos ⟨⟨⟨show acc.size < x.length + 1 by omega, h2⟩, k1⟩, k2⟩]
      have hlt : lo < x.cps.toList.length := (List.getElem?_eq_some_iff.mp hc).1
      have hg : x.cps.toList[lo] = c := by
        rw [List.getElem?_eq_getElem hlt] at hc
        exact Option.some.inj hc
      have ih := occ_go x c n (lo + 1) (acc.push lo) (lo + (⟨#[c]⟩ : Str).length) (by omega) (by rw [Array.size_push]; omega) (Nat.le_refl _)
      rw [List.drop_eq_getElem_cons hlt, hg, List.count_cons_self]
      rw [Array.size_push] at ih
      refine Eq.trans ih ?_
      omega
    · rw [if_neg (fun z => hc (key.mp ⟨z.1.2, z.2⟩))]
      have ih := occ_go x c n (lo + 1) acc free (by omega) (by omega) (by omega)
      refine Eq.trans ih ?_
      by_cases hlt : lo < x.cps.toList.length
      · rw [List.drop_eq_getElem_cons hlt, List.count_cons_of_ne (fun z => hc (by rw [List.getElem?_eq_getElem hlt, z]))]
      · rw [List.drop_eq_nil_of_le (by omega), List.drop_eq_nil_of_le (by omega)]
theorem count_one (x : Str) (c : Nat) : Txt.count x ⟨#[c]⟩ = (x.cps.toList.count c : Nat) := by
  unfold Txt.count
  rw [StrLaws.occ_eq, ← Array.size_eq_length_toList, occ_go x c _ _ _ _ (by omega) (by simp) (Nat.le_refl _), List.drop_zero, Array.size_empty, Nat.zero_add]
/-- the ones of a number's binary digits -/
def pop (n : Nat) : Nat := if h : n = 0 then 0 else n % 2 + pop (n / 2)
termination_by n
decreasing_by omega
theorem pop_zero : pop 0 = 0 := by rw [pop]; rfl
theorem pop_eq (n : Nat) : pop n = n % 2 + pop (n / 2) := by
  by_cases h : n = 0
  · subst h; simp [pop_zero]
  · rw [pop, dif_neg h]
theorem binS_ones : ∀ n : Nat, (binS n).cps.toList.count 49 = pop n := by
  intro n
  have dig : ∀ k, k < 2 → ([(Nat.digitChar k)].map Char.toNat).count 49 = k := by decide
  induction n using Nat.strongRecOn with
  | _ n ih =>
    by_cases h : n < 2
    · unfold binS
      rw [Nat.toDigits_of_lt_base h]
      have e := dig n h
      rw [pop_eq, show n / 2 = 0 by omega, pop_zero, show n % 2 = n by omega]
      simpa using e
    · have hh := ih (n / 2) (by omega)
      unfold binS at hh ⊢
      rw [Nat.toDigits_of_base_le (by decide) (by omega), pop_eq]
      have e := dig (n % 2) (by omega)
      simp only [List.map_append, List.count_append] at hh ⊢
      rw [hh, e]
      omega
theorem binS_len {n k : Nat} (h : n < 2 ^ k) (hk : 0 < k) : (binS n).length ≤ k := by
  have e : (binS n).length = (Nat.toDigits 2 n).length := by simp [binS, Str.length]
  rw [e]
  exact (Nat.length_toDigits_le_iff (by decide) hk).mpr h
theorem count_bin (n : Nat) : Txt.count (binS n) (Str.ofString "1") = (pop n : Nat) := by
  rw [show (Str.ofString "1") = (⟨#[49]⟩ : Str) by decide +kernel, count_one, binS_ones]
/-- {e:b} -/
theorem pe_fmtB {X : Cx} {e spec : Expr} {te : TE} {pos : Pos} (he : PE X e te) (hs : PE X spec (tC (.str (Str.ofString "b")))) : PE X (.FormattedValue e (-1) (some spec) pos) (fun σ H Q => te σ H fun x H1 => ∃ n : Nat, x = .int n ∧ (binS n).length ≤ sizeLine ∧ Q (.str (binS n)) H1) := by
  refine ⟨fun pins s σ H Q I h => ?_⟩
  refine wpAny_FormattedValue_spec (thn (he.run pins s σ H _ I h) fun v s1 ⟨x, H1, I1, r1, n, e1, hz, q⟩ => ?_)
  subst e1
  obtain ⟨t, rfl⟩ := r1
  refine thn (hs.run pins s1 σ H1 (fun v' H' => v' = .str (Str.ofString "b") ∧ H' = H1) I1 ⟨rfl, rfl⟩) fun r s2 ⟨v', H2, I2, r2, e2, e3⟩ => ?_
  subst e2; subst e3
  obtain ⟨t2, rfl⟩ := r2
  exact ⟨_, t2, rfl, formatField_bin hz fun t' k => ⟨.str (binS n), _, I2.tok _, ⟨_, rfl⟩, q⟩⟩
/-- f'{e:b}'.count('1') -/
theorem we_ones {X : Cx} {c : Ct} {A : AS} {e : Expr} {k1 k2} {p1 p2 p3 p4 p5 apos cpos : Pos} {Q : PyData → Prop} (h : WE X c e A fun d => ∃ n : Nat, d = .int n ∧ n < 2 ^ 100000 ∧ Q (.int (pop n : Nat)))
    (hbase : attributeBase (.JoinedStr [.FormattedValue e (-1) (some (.JoinedStr [.Constant (.str (Str.ofString "b")) k1 p1] p2)) p3] p4) "count" X.env (eval (.JoinedStr [.FormattedValue e (-1) (some (.JoinedStr [.Constant (.str (Str.ofString "b")) k1 p1] p2)) p3] p4) X.env) = eval (.JoinedStr [.FormattedValue e (-1) (some (.JoinedStr [.Constant (.str (Str.ofString "b")) k1 p1] p2)) p3] p4) X.env := by rfl)
    (hfew : ((backTo cpos (starEach [.Constant (.str (Str.ofString "1")) k2 p5] X.env)).all (fun x => !x.1) && (backToKw cpos (keywordEach [] X.env)).all (fun x => x.1.isSome) && decide ([Expr.Constant (.str (Str.ofString "1")) k2 p5].length + ([] : List Keyword).length + (if ([] : List Keyword).isEmpty then 0 else 1) < 30)) = true := by rfl)
    (hline : (apos.endLine == cpos.line) = true := by rfl) (hs : starEach [.Constant (.str (Str.ofString "1")) k2 p5] X.env = (false, eval (.Constant (.str (Str.ofString "1")) k2 p5) X.env) :: starEach [] X.env := by rfl) (hplain : (backTo cpos (starEach [] X.env)).any (·.1) = false := by rfl) :
    WE X c (.Call (.Attribute (.JoinedStr [.FormattedValue e (-1) (some (.JoinedStr [.Constant (.str (Str.ofString "b")) k1 p1] p2)) p3] p4) "count" apos) [.Constant (.str (Str.ofString "1")) k2 p5] [] cpos) A Q := fun G ps σ H S => by
  refine wE_of (pe_bm PySem.F.plainAttrs_str PySem.F.slot_str_count PySem.F.type_str_count mt_count (pe_joined1 (pe_fmtB pe_w (pe_joined1 pe_str))) (pa_cons pe_str pa_nil hs) hbase hfew hline hs hplain) (wE_mono (h G ps σ H S) fun v H1 ⟨G1, d, s1, r1, n, e1, hn, q⟩ => ?_)
  subst e1
  refine ⟨n, dp_int r1, Nat.le_trans (binS_len hn (by decide)) (Evl.sz_of (Nat.le_refl _)), rfl, binS n, _, rfl, rfl, ?_⟩
  rw [count_bin]
  exact ⟨G1, _, s1, .int _, q⟩
end Eng

set_option Elab.async false
set_option linter.all false
set_option maxRecDepth 100000
namespace Eng
open PySem PySem.Spec PyProof.Rows L2
/-- the members of a mask, ascending -/
def bits (n : Nat) : List Nat := if h : n = 0 then [] else (if n % 2 = 1 then [0] else []) ++ (bits (n / 2)).map (· + 1)
termination_by n
decreasing_by omega
theorem bits_zero : bits 0 = [] := by rw [bits]; rfl
theorem bits_eq (n : Nat) : bits n = (if n % 2 = 1 then [0] else []) ++ (bits (n / 2)).map (· + 1) := by
  by_cases h : n = 0
  · subst h; simp [bits_zero]
  · rw [bits, dif_neg h]
theorem bits_len (n : Nat) : (bits n).length = pop n := by
  induction n using Nat.strongRecOn with
  | _ n ih =>
    by_cases h : n = 0
    · subst h; rw [bits_zero, pop_zero]; rfl
    · rw [bits_eq, pop_eq, List.length_append, List.length_map, ih (n / 2) (by omega)]
      by_cases hm : n % 2 = 1
      · rw [if_pos hm, hm]; rfl
      · rw [if_neg hm, show n % 2 = 0 by omega]; rfl
theorem bits_filter : ∀ (L n : Nat), n < 2 ^ L → bits n = (List.range L).filter fun k => n.testBit k
  | 0, n, h => by
    have : n = 0 := by simpa using h
    subst this
    rw [bits_zero]; rfl
  | L + 1, n, h => by
    have ih := bits_filter L (n / 2) (by rw [Nat.pow_succ] at h; omega)
    rw [bits_eq, ih, List.range_succ_eq_map, List.filter_cons, List.filter_map]
    have e : ((fun k => n.testBit k) ∘ Nat.succ) = fun k => (n / 2).testBit k := by
      funext k
      show n.testBit (k + 1) = _
      rw [Nat.testBit_succ]
    rw [e]
    by_cases hm : n % 2 = 1
    · rw [if_pos hm, if_pos (by rw [Nat.testBit_zero]; simp [hm])]; rfl
    · rw [if_neg hm, if_neg (by rw [Nat.testBit_zero]; simp [hm])]; rfl
theorem nat_ext2 {a b : Nat} (h1 : a / 2 = b / 2) (h2 : a % 2 = b % 2) : a = b := by omega
theorem and_mod (a b : Nat) : (a &&& b) % 2 = (a % 2) * (b % 2) := by
  have h := Nat.testBit_and a b 0
  simp only [Nat.testBit_zero] at h
  rcases Nat.mod_two_eq_zero_or_one a with ha | ha <;> rcases Nat.mod_two_eq_zero_or_one b with hb | hb <;> rcases Nat.mod_two_eq_zero_or_one (a &&& b) with hc | hc <;> simp_all
theorem xor_mod (a b : Nat) : (a ^^^ b) % 2 = (a + b) % 2 := by
  have h := Nat.testBit_xor a b 0
  simp only [Nat.testBit_zero] at h
  rcases Nat.mod_two_eq_zero_or_one a with ha | ha <;> rcases Nat.mod_two_eq_zero_or_one b with hb | hb <;> rcases Nat.mod_two_eq_zero_or_one (a ^^^ b) with hc | hc <;> rw [ha, hb, hc] at h <;> first | omega | exact absurd h (by decide)
theorem low_bit (n : Nat) (h : 0 < n) : ∃ t, (n &&& (n - 1)) + 2 ^ t = n ∧ bits n = t :: bits (n &&& (n - 1)) ∧ n ^^^ 2 ^ t = n &&& (n - 1) := by
  induction n using Nat.strongRecOn with
  | _ n ih =>
    rcases Nat.mod_two_eq_zero_or_one n with hm | hm
    · obtain ⟨t, h1, h2, h3⟩ := ih (n / 2) (by omega) (by omega)
      have e : n &&& (n - 1) = 2 * (n / 2 &&& (n / 2 - 1)) := by
        apply nat_ext2
        · rw [Nat.and_div_two, show (n - 1) / 2 = n / 2 - 1 by omega]; omega
        · rw [and_mod, hm]; omega
      refine ⟨t + 1, ?_, ?_, ?_⟩
      · rw [e, Nat.pow_succ]; omega
      · rw [e, bits_eq n, h2, bits_eq (2 * _), if_neg (by omega), if_neg (by omega), show 2 * (n / 2 &&& (n / 2 - 1)) / 2 = (n / 2 &&& (n / 2 - 1)) by omega]
        rfl
      · rw [e, ← h3]
        apply nat_ext2
        · rw [Nat.xor_div_two, show 2 ^ (t + 1) / 2 = 2 ^ t by rw [Nat.pow_succ]; omega]; omega
        · rw [xor_mod, Nat.pow_succ]; omega
    · have e : n &&& (n - 1) = n - 1 := by
        apply nat_ext2
        · rw [Nat.and_div_two, show (n - 1) / 2 = n / 2 by omega, Nat.and_self]
        · rw [and_mod, hm]; omega
      refine ⟨0, ?_, ?_, ?_⟩
      · rw [e]; omega
      · rw [e, bits_eq n, if_pos hm, bits_eq (n - 1), if_neg (by omega), show (n - 1) / 2 = n / 2 by omega]; rfl
      · rw [e]
        apply nat_ext2
        · rw [Nat.xor_div_two, show 2 ^ 0 / 2 = 0 by decide, Nat.xor_zero]; omega
        · rw [xor_mod]; omega
theorem bitAnd_low {n : Nat} (h : 0 < n) : Builtin.bitAnd (n : Int) (-(n : Int)) = ((n - (n &&& (n - 1)) : Nat) : Int) := by
  rw [bitAnd_pn (by omega) (by omega)]
  have e : (Builtin.bitNot (-(n : Int))).toNat = n - 1 := by
    show (-(-(n : Int)) - 1).toNat = n - 1
    omega
  rw [e, Int.toNat_natCast]
  have : n &&& (n - 1) ≤ n := Nat.and_le_left
  omega
theorem bitXor_cast (a b : Nat) : Builtin.bitXor (a : Int) (b : Int) = ((a ^^^ b : Nat) : Int) := by
  rw [Bits.bitXor_pp (by omega) (by omega), Int.toNat_natCast, Int.toNat_natCast]
theorem bitOr_cast (a b : Nat) : Builtin.bitOr (a : Int) (b : Int) = ((a ||| b : Nat) : Int) := by
  rw [Bits.bitOr_pp (by omega) (by omega), Int.toNat_natCast, Int.toNat_natCast]
theorem bitAnd_cast (a b : Nat) : Builtin.bitAnd (a : Int) (b : Int) = ((a &&& b : Nat) : Int) := by
  rw [bitAnd_pp (by omega) (by omega), Int.toNat_natCast, Int.toNat_natCast]
theorem intBits_pow (t : Nat) : Builtin.Int.intBits ((2 ^ t : Nat) : Int) = t + 1 := by
  unfold Builtin.Int.intBits
  have hp : 0 < 2 ^ t := Nat.pow_pos (by decide)
  rw [if_neg (by simp only [beq_iff_eq]; omega), Int.natAbs_natCast, Nat.log2_two_pow]
theorem lt_intBits (n : Nat) : n < 2 ^ Builtin.Int.intBits (n : Int) := by
  unfold Builtin.Int.intBits
  by_cases h : n = 0
  · subst h; decide
  · rw [if_neg (by simp; omega), Int.natAbs_natCast]
    exact Nat.lt_log2_self
theorem intBits_lt {n k : Nat} (h : n < 2 ^ k) : Builtin.Int.intBits (n : Int) ≤ k := by
  unfold Builtin.Int.intBits
  by_cases h0 : n = 0
  · subst h0; simp
  · rw [if_neg (by simp; omega), Int.natAbs_natCast]
    exact (Nat.log2_lt h0).mpr h
/-- the mask of numbers, each as often as it stands -/
def maskOf (ks : List Nat) : Nat := ks.foldl (fun m k => m ^^^ 2 ^ k) 0
theorem fold_xor (ks : List Nat) : ∀ m, ks.foldl (fun m k => m ^^^ 2 ^ k) m = m ^^^ maskOf ks := by
  induction ks with
  | nil => intro m; show m = m ^^^ 0; rw [Nat.xor_zero]
  | cons k ks ih =>
    intro m
    unfold maskOf
    rw [List.foldl_cons, List.foldl_cons, ih, ih (0 ^^^ 2 ^ k), Nat.zero_xor, Nat.xor_assoc]
theorem maskOf_cons (k : Nat) (ks : List Nat) : maskOf (k :: ks) = 2 ^ k ^^^ maskOf ks := by
  show ks.foldl _ (0 ^^^ 2 ^ k) = _
  rw [fold_xor, Nat.zero_xor]
theorem mask_bits (n : Nat) : maskOf (bits n) = n := by
  induction n using Nat.strongRecOn with
  | _ n ih =>
    by_cases h : n = 0
    · subst h; rw [bits_zero]; rfl
    · obtain ⟨t, h1, h2, h3⟩ := low_bit n (by omega)
      have hp : 0 < 2 ^ t := Nat.pow_pos (by decide)
      rw [h2, maskOf_cons, ih (n &&& (n - 1)) (by omega), ← h3, Nat.xor_comm, Nat.xor_assoc, Nat.xor_self, Nat.xor_zero]
theorem filt_yes {α : Type} {f : Nat → Bool} {v : Nat → α} {i : Nat} (h : f i = true) : ((List.range (i + 1)).filter f).map v = ((List.range i).filter f).map v ++ [v i] := by
  rw [List.range_succ, List.filter_append, List.map_append, List.filter_cons, if_pos h]
  rfl
theorem filt_no {α : Type} {f : Nat → Bool} {v : Nat → α} {i : Nat} (h : f i = false) : ((List.range (i + 1)).filter f).map v = ((List.range i).filter f).map v := by
  rw [List.range_succ, List.filter_append, List.filter_cons, if_neg (by rw [h]; decide)]
  show List.map v (_ ++ []) = _
  rw [List.append_nil]
theorem maskOf_snoc (ks : List Nat) (k : Nat) : maskOf (ks ++ [k]) = maskOf ks ^^^ 2 ^ k := by
  unfold maskOf
  rw [List.foldl_append]
  rfl
/-! ### rules over numbers that are not negative -/
section
variable {X : Cx} {c : Ct} {A : AS} {e a b : Expr} {es : List Expr} {pos p : Pos} {Q : PyData → Prop} {st : Stmt} {sts rest : List Stmt} {D : ADs} {N : List Str} {n m : Nat} {i j : Int}
theorem od_andN (q : Q (.int ((n &&& m : Nat) : Int))) : OpD X c (binaryOp .BitAnd) (.int n) (.int m) Q := od_and (by rw [bitAnd_cast]; exact q)
theorem od_orN (q : Q (.int ((n ||| m : Nat) : Int))) : OpD X c (binaryOp .BitOr) (.int n) (.int m) Q := od_or (by rw [bitOr_cast]; exact q)
theorem od_xorN (q : Q (.int ((n ^^^ m : Nat) : Int))) : OpD X c (binaryOp .BitXor) (.int n) (.int m) Q := od_xor (by rw [bitXor_cast]; exact q)
theorem od_and1 (q : Q (.int ((n % 2 : Nat) : Int))) : OpD X c (binaryOp .BitAnd) (.int n) (.int 1) Q := od_and (by
  have e : Builtin.bitAnd (n : Int) 1 = ((n % 2 : Nat) : Int) := by
    have := bitAnd_cast n 1
    rw [Nat.and_one_is_mod] at this
    exact this
  rw [e]; exact q)
theorem od_shrN (q : Q (.int ((n / 2 ^ m : Nat) : Int))) : OpD X c (binaryOp .RShift) (.int n) (.int m) Q := od_shr (by omega) (by
  have e : (n : Int) / 2 ^ (m : Int).toNat = ((n / 2 ^ m : Nat) : Int) := by
    rw [Int.toNat_natCast]; norm_cast
  rw [e]; exact q)
theorem od_shl1 (hm : m ≤ 100000) (q : Q (.int ((2 ^ m : Nat) : Int))) : OpD X c (binaryOp .LShift) (.int 1) (.int m) Q := od_shl (shl_ok (n := 1) (by decide) (by omega)) (by
  have e : (1 : Int) * 2 ^ (m : Int).toNat = ((2 ^ m : Nat) : Int) := by
    rw [Int.toNat_natCast, Int.one_mul]; norm_cast
  rw [e]; exact q)
theorem od_ixorN (q : Q (.int ((n ^^^ m : Nat) : Int))) : OpD X c (inplaceOp .BitXor) (.int n) (.int m) Q := od_I0 iop_xor (by rw [bitXor_cast]; exact q)
theorem od_iadd (q : Q (.int (i + j))) : OpD X c (inplaceOp .Add) (.int i) (.int j) Q := od_I0 iop_add q
/-- x.bit_length() -/
theorem we_bl {apos cpos : Pos} (h : WE X c e A fun d => ∃ i, d = .int i ∧ Q (.int (Builtin.Int.intBits i : Nat))) (hbase : attributeBase e "bit_length" X.env (eval e X.env) = eval e X.env) (hline : (apos.endLine == cpos.line) = true) : WE X c (.Call (.Attribute e "bit_length" apos) [] [] cpos) A Q := fun G ps σ H S =>
  wE_of (pe_bits pe_w hbase hline) (wE_mono (h G ps σ H S) fun v H1 ⟨G1, d, s1, r1, i, e1, q⟩ => by subst e1; exact ⟨i, dp_int r1, G1, _, s1, .int _, q⟩)
end
end Eng

set_option Elab.async false
set_option linter.all false
set_option maxRecDepth 100000
set_option maxHeartbeats 2000000
namespace Eng
open PySem PySem.Spec PyProof.Rows L2
open Evl (Ex)
/-! ### texts by their codes -/
def mk (l : List Nat) : Str := ⟨l.toArray⟩
theorem mk_app (a b : List Nat) : mk a ++ mk b = mk (a ++ b) := by
  show (⟨a.toArray ++ b.toArray⟩ : Str) = ⟨(a ++ b).toArray⟩
  rw [List.append_toArray]
theorem mk_len (a : List Nat) : (mk a).length = a.length := by simp [mk, Str.length]
theorem mk_list (a : List Nat) : (mk a).cps.toList = a := by simp [mk]
theorem mk_of (s : Str) : s = mk s.cps.toList := by cases s; simp [mk]
theorem joinL_nil : ∀ ps : List (List Nat), TL.joinL [] ps = ps.flatten
  | [] => rfl
  | [p] => by simp [TL.joinL]
  | p :: q :: r => by
    show p ++ ([] ++ TL.joinL [] (q :: r)) = _
    rw [joinL_nil (q :: r)]
    simp
theorem join_mk (ps : List (List Nat)) : Txt.join (mk []) (ps.map mk) = mk ps.flatten := by
  have e := TL.tl_join (mk []) (ps.map mk)
  rw [← TL.join_eq] at e
  have e2 : (Txt.join (mk []) (ps.map mk)).cps.toList = ps.flatten := by
    refine Eq.trans e ?_
    show TL.joinL (mk []).cps.toList ((ps.map mk).map fun s => s.cps.toList) = _
    rw [mk_list, List.map_map, show ((fun s : Str => s.cps.toList) ∘ mk) = id from funext mk_list, List.map_id, joinL_nil]
  rw [mk_of (Txt.join _ _), e2]
section
variable {X : Cx} {c : Ct} {A : AS} {e a b : Expr} {es : List Expr} {pos p : Pos} {Q : PyData → Prop} {st : Stmt} {sts rest : List Stmt} {D : ADs} {N : List Str}
theorem od_addM {i j : List Nat} (hz : i.length + j.length ≤ 100000) (q : Q (.str (mk (i ++ j)))) : OpD X c (binaryOp .Add) (.str (mk i)) (.str (mk j)) Q :=
  ⟨_, op_add_str, fun _ _ G H v1 v2 s h1 h2 => ⟨mk i, mk j, dp_str h1, dp_str h2, by rw [mk_len, mk_len]; exact Evl.sz_of hz, G, _, s.refl, .str _, by rw [mk_app]; exact q⟩⟩
theorem we_join {o : Expr} {apos cpos : Pos} (h : WE X c o A fun d0 => d0 = .str (mk []) ∧ WE X c e A fun d => ∃ ps : List (List Nat), d = .list (ps.map fun l => .str (mk l)) ∧ ps.flatten.length ≤ 100000 ∧ Q (.str (mk ps.flatten)))
    (hbase : attributeBase o "join" X.env (eval o X.env) = eval o X.env)
    (hfew : ((backTo cpos (starEach [e] X.env)).all (fun x => !x.1) && (backToKw cpos (keywordEach [] X.env)).all (fun x => x.1.isSome) && decide ([e].length + ([] : List Keyword).length + (if ([] : List Keyword).isEmpty then 0 else 1) < 30)) = true)
    (hline : (apos.endLine == cpos.line) = true) (hs : starEach [e] X.env = (false, eval e X.env) :: starEach [] X.env) (hplain : (backTo cpos (starEach [] X.env)).any (·.1) = false) :
    WE X c (.Call (.Attribute o "join" apos) [e] [] cpos) A Q := fun G ps σ H S => by
  refine wE_of (pe_bm PySem.F.plainAttrs_str PySem.F.slot_str_join PySem.F.type_str_join mt_join pe_w (pa_cons pe_w pa_nil hs) hbase hfew hline hs hplain) (wE_mono (h G ps σ H S) fun v H1 ⟨G1, d, s1, r1, e1, q1⟩ => ?_)
  subst e1
  rw [dp_str r1]
  refine ⟨rfl, wE_mono (q1 G1 ps σ H1 (S.step s1)) fun v2 H2 ⟨G2, d2, s2, r2, ls, e2, hz, q⟩ => ?_⟩
  subst e2
  obtain ⟨q2, xs, rfl, hx, ha⟩ := dp_list r2
  have hstr : ∀ {vs : List V} (ls : List (List Nat)), DpAll X.K G2 vs (ls.map fun l => .str (mk l)) → vs = (ls.map mk).map V.str := by
    intro vs ls
    induction ls generalizing vs with
    | nil => intro h; cases h; rfl
    | cons l ls ih =>
      intro h
      cases h with
      | cons h1 h2 => rw [dp_str h1, ih h2]; rfl
  have ex := hstr ls ha
  subst ex
  refine ⟨mk [], q2, ls.map mk, rfl, rfl, .inl (Evl.ex_l s2.sub hx), ?_, G2, _, s1.trans s2, .str _, by rw [join_mk]; exact q⟩
  have e3 : ((ls.map mk).map (·.length)).sum + (ls.map mk).length * (mk []).length = ls.flatten.length := by
    rw [mk_len, List.map_map, List.length_flatten, show ((fun s : Str => s.length) ∘ mk) = List.length from funext mk_len]
    simp
  rw [e3]
  omega
/-- a constant of the module, by facts -/
theorem we_gl {K : PySem.W.Frag} {mg : Str → Option Value} {x : Str} {d : PyData} (g : Gc K mg x d) (he : X.K = K ∧ X.mg = mg) (hg : Gl X x) (hd : (x == ("__debug__" : Str)) = false) (q : Q d) : WE X c (.Name x pos) A Q := by
  obtain ⟨rfl, rfl⟩ := he
  exact we_glob g q hg hd
theorem od_shlN {n m k : Nat} (hn : n < 2 ^ k) (hm : k + m ≤ 134217728) (q : Q (.int ((n * 2 ^ m : Nat) : Int))) : OpD X c (binaryOp .LShift) (.int n) (.int m) Q := od_shl (shl_ok (n := k) (by rw [Int.natAbs_natCast]; exact hn) hm) (by
  have e : (n : Int) * 2 ^ (m : Int).toNat = ((n * 2 ^ m : Nat) : Int) := by
    rw [Int.toNat_natCast]; norm_cast
  rw [e]; exact q)
end
theorem gc_str {K : PySem.W.Frag} {mg : Str → Option Value} {x : Str} {s : Str} {t : Tok} (h : mg x = some (.str s t)) : Gc K mg x (.str s) := ⟨.str s, _, h, ⟨t, rfl⟩, fun _ => .str s⟩
theorem gc_int {K : PySem.W.Frag} {mg : Str → Option Value} {x : Str} {s : Int} {t : Tok} (h : mg x = some (.int s t)) : Gc K mg x (.int s) := ⟨.int s, _, h, ⟨t, rfl⟩, fun _ => .int s⟩
theorem gc_tup {K : PySem.W.Frag} {mg : Str → Option Value} {x : Str} {a : Addr} {od : Option Addr} {its : Array Value} {n : Nat} {sl : Array (Option Value)} {xs : List V} {ds : List PyData} (h : mg x = some (.ref a)) (l : K.lookup a = some ⟨.type "tuple", od, .seq its n, sl⟩) (hz : its.size ≤ 1000) (hv : Vals xs its.toList) (hd : ∀ G, DpAll K G xs ds) : Gc K mg x (.tuple ds) :=
  ⟨.ref a, _, h, rfl, fun G => .tup (.inr ⟨_, its, n, l, rfl, rfl, Evl.sz_of (by omega), hv⟩) (hd G)⟩
end Eng

set_option Elab.async false
set_option linter.all false
set_option maxRecDepth 100000
set_option maxHeartbeats 2000000
namespace Eng
open PySem PySem.Spec PyProof.Rows L2
open Evl (Ex)
/-! ### what is walked, by data -/
structure ItOk (K : PySem.W.Frag) (J : It) (G : Hp) (ds : List PyData) : Prop where
  go : ∀ i H, Ex G H → i < ds.length → J.go i H
  stop : ∀ i H, Ex G H → ds.length ≤ i → J.stop i H
  yld : ∀ i H x H', Ex G H → i < ds.length → J.yld i H x H' → H' = H ∧ ∃ d, ds[i]? = some d ∧ Dp K G x d
theorem ItOk.up {K : PySem.W.Frag} {J : It} {G G' : Hp} {ds : List PyData} (e : Ex G G') (h : ItOk K J G ds) : ItOk K J G' ds :=
  ⟨fun i H x l => h.go i H (e.trans x) l, fun i H x l => h.stop i H (e.trans x) l, fun i H x H' z l y => by
    obtain ⟨e1, d, e2, r⟩ := h.yld i H x H' (e.trans z) l y
    exact ⟨e1, d, e2, dp_up e d r⟩⟩
theorem itok_list {K : PySem.W.Frag} {G : Hp} {a : Addr} {xs : List V} {ds : List PyData} (h : SqL K G a xs) (ha : DpAll K G xs ds) : ItOk K (Itl K a) G ds where
  go := fun i H e l => ⟨xs, xs[i]'(by rw [dall_len ha]; exact l), Evl.ex_l e h, List.getElem?_eq_getElem _⟩
  stop := fun i H e l => ⟨xs, Evl.ex_l e h, by rw [dall_len ha]; exact l⟩
  yld := fun i H x H' e l y => ⟨y.1, by
    obtain ⟨d, hd, r⟩ := dall_getV ha (y.2 xs (Evl.ex_l e h))
    exact ⟨d, hd, r⟩⟩
theorem itok_tup {K : PySem.W.Frag} {G : Hp} {a : Addr} {xs : List V} {ds : List PyData} (h : SqT K G a xs) (ha : DpAll K G xs ds) : ItOk K (Itt K a) G ds where
  go := fun i H e l => ⟨xs, xs[i]'(by rw [dall_len ha]; exact l), Evl.ex_t e h, List.getElem?_eq_getElem _⟩
  stop := fun i H e l => ⟨xs, Evl.ex_t e h, by rw [dall_len ha]; exact l⟩
  yld := fun i H x H' e l y => ⟨y.1, by
    obtain ⟨d, hd, r⟩ := dall_getV ha (y.2 xs (Evl.ex_t e h))
    exact ⟨d, hd, r⟩⟩
def rngD (n : Nat) : List PyData := (List.range n).map fun (k : Nat) => PyData.int (k : Int)
theorem rngD_get {n i : Nat} (h : i < n) : (rngD n)[i]? = some (.int (i : Int)) := by
  unfold rngD
  rw [List.getElem?_map, List.getElem?_range h]; rfl
theorem rngD_len (n : Nat) : (rngD n).length = n := by unfold rngD; rw [List.length_map, List.length_range]
theorem itok_rng {K : PySem.W.Frag} {G : Hp} (n : Nat) : ItOk K (Itr 0 n) G (rngD n) where
  go := fun i H e l => by rw [rngD_len] at l; exact l
  stop := fun i H e l => by rw [rngD_len] at l; exact l
  yld := fun i H x H' e l y => ⟨y.1, .int (i : Int), rngD_get (by rw [rngD_len] at l; exact l), by
    have e2 : x = .int (0 + (i : Int)) := y.2
    rw [e2, Int.zero_add]
    exact .int _⟩
def wI (X : Cx) (tg it : Expr) : TI := fun σ H R => ∀ pins s, Inv X pins σ H s → wpAny (model X.prog X.w) X.A (eval it X.env) (fun v s1 => wpAny (model X.prog X.w) X.A (pyIter v) (PIE X pins σ tg R) X.xe s1) X.xe s
theorem pi_w {X : Cx} {tg it : Expr} : PI X tg it (wI X tg it) := ⟨fun pins s _ _ _ I h => h pins s I⟩
theorem wI_of {X : Cx} {tg it : Expr} {wi : TI} {σ : L2.St} {H : Hp} {R : It → Hp → Prop} (h : PI X tg it wi) (q : wi σ H R) : wI X tg it σ H R := fun pins s I => h.run pins s σ H R I q
theorem wI_mono {X : Cx} {tg it : Expr} {σ : L2.St} {H : Hp} {R R' : It → Hp → Prop} (h : wI X tg it σ H R) (k : ∀ J H', R J H' → R' J H') : wI X tg it σ H R' := fun pins s I =>
  thn (h pins s I) fun v s1 q => thn q fun u s2 ⟨i, fp, tn, J, H', e, I', T, t0, f, r⟩ => ⟨i, fp, tn, J, H', e, I', T, t0, f, k J H' r⟩
/-- an iterable gives these items -/
def WI (X : Cx) (c : Ct) (tg it : Expr) (A : AS) (Q : List PyData → Prop) : Prop := ∀ G ps σ H, St X.K c A G ps σ H → wI X tg it σ H fun J H' => ∃ G' ds, Stp X.K c.pa G H G' H' ∧ ItOk X.K J G' ds ∧ Q ds
section
variable {X : Cx} {c : Ct} {A : AS} {e a b tg it n : Expr} {es : List Expr} {pos p p2 : Pos} {Q : PyData → Prop} {st : Stmt} {sts rest body : List Stmt} {D : ADs} {N : List Str}
theorem wi_list {Q : List PyData → Prop} (h : WE X c it A fun d => ∃ ds, d = .list ds ∧ Q ds) : WI X c tg it A Q := fun G ps σ H S =>
  wI_of (pi_list pe_w) (wE_mono (h G ps σ H S) fun v H1 ⟨G1, d, s1, r1, ds, e1, q⟩ => by
    subst e1
    obtain ⟨p, xs, rfl, hx, ha⟩ := dp_list r1
    exact ⟨p, rfl, ⟨xs, Evl.ex_l s1.sub hx⟩, G1, ds, s1, itok_list hx ha, q⟩)
theorem wi_tup {Q : List PyData → Prop} (h : WE X c it A fun d => ∃ ds, d = .tuple ds ∧ Q ds) : WI X c tg it A Q := fun G ps σ H S =>
  wI_of (pi_tup pe_w) (wE_mono (h G ps σ H S) fun v H1 ⟨G1, d, s1, r1, ds, e1, q⟩ => by
    subst e1
    obtain ⟨p, xs, rfl, hx, ha⟩ := dp_tup r1
    exact ⟨p, rfl, ⟨xs, Evl.ex_t s1.sub hx⟩, G1, ds, s1, itok_tup hx ha, q⟩)
theorem wi_rng {Q : List PyData → Prop} (hm : X.mg "range" = none) (h : WE X c n A fun d => ∃ m : Nat, d = .int (m : Int) ∧ m ≤ 1000000 ∧ Q (rngD m)) (hg : Gl X "range" := by rfl) (hst : starEach [n] X.env = (false, eval n X.env) :: starEach [] X.env := by rfl) (hst2 : starEach [n] X.env = [(false, eval n X.env)] := by rfl) :
    WI X c tg (.Call (.Name "range" p) [n] [] p2) A Q := fun G ps σ H S =>
  wI_of (pi_range1 hg hm (pa_cons pe_w pa_nil hst) hst2) (wE_mono (h G ps σ H S) fun v H1 ⟨G1, d, s1, r1, m, e1, hm, q⟩ => by
    subst e1
    refine ⟨(m : Int), by rw [dp_int r1], by omega, by omega, G1, _, s1, ?_, q⟩
    rw [Int.toNat_natCast]
    exact itok_rng m)

/-! ### targets of comprehensions -/
theorem wipe_set {j : Nat} {x y : Option V} : ∀ (σ : L2.St) (vs : List Nat), (L2.wipe (σ.set j x) vs).set j y = (L2.wipe σ vs).set j y
  | σ, [] => by show (σ.set j x).set j y = σ.set j y; rw [List.set_set]
  | σ, v :: vs => by
    show ((L2.wipe (σ.set j x) vs).set v none).set j y = ((L2.wipe σ vs).set v none).set j y
    by_cases h : v = j
    · subst h; rw [List.set_set, List.set_set]; exact wipe_set σ vs
    · rw [List.set_comm _ _ h, List.set_comm _ _ h, wipe_set σ vs]
theorem wipe_in {j : Nat} {x : Option V} : ∀ (σ : L2.St) (vs : List Nat), j ∈ vs → L2.wipe (σ.set j x) vs = L2.wipe σ vs
  | σ, v :: vs, h => by
    show (L2.wipe (σ.set j x) vs).set v none = (L2.wipe σ vs).set v none
    by_cases e : v = j
    · subst e; exact wipe_set σ vs
    · have hm : j ∈ vs := by
        rcases List.mem_cons.mp h with z | z
        · exact absurd z.symm e
        · exact z
      rw [wipe_in σ vs hm]
theorem wipe_idem : ∀ (σ : L2.St) (vs : List Nat), L2.wipe (L2.wipe σ vs) vs = L2.wipe σ vs
  | σ, [] => rfl
  | σ, v :: vs => by
    have e : L2.wipe σ (v :: vs) = (L2.wipe σ vs).set v none := rfl
    rw [e, wipe_in _ _ (List.mem_cons_self ..)]
    show (L2.wipe (L2.wipe σ vs) vs).set v none = _
    rw [wipe_idem σ vs]
def TgOk (X : Cx) (c : Ct) (g : TG) (vs : List Nat) (A0 : AS) (d : PyData) (A1 : AS) : Prop := ∀ G ps σ H v, St X.K c A0 G ps σ H → Dp X.K G v d → ∀ H', Ex G H' → ∀ k : L2.St → Hp → Prop, (∀ σ2, L2.wipe σ2 vs = L2.wipe σ vs → (∀ G2 H2, Stp X.K c.pa G H G2 H2 → St X.K c A1 G2 ps σ2 H2) → k σ2 H') → g v σ H' k
theorem tg_one {j : Nat} {vs : List Nat} {d : PyData} (hj : j ∈ vs) : TgOk X c (gName j) vs A d ⟨A.ρ.set j (.dat d), A.μ⟩ := fun G ps σ H v S r H' e k h =>
  h _ (wipe_in σ vs hj) fun G2 H2 s => (S.put r).step s
theorem tg_two {j1 j2 : Nat} {vs : List Nat} {d1 d2 : PyData} (h1 : j1 ∈ vs) (h2 : j2 ∈ vs) : TgOk X c (gTup X.K 2 (gCons (gName j1) (gCons (gName j2) gNil))) vs A (.tuple [d1, d2]) ⟨(A.ρ.set j1 (.dat d1)).set j2 (.dat d2), A.μ⟩ := fun G ps σ H v S r H' e k h => by
  obtain ⟨p, xs, rfl, hs, ha⟩ := dp_tup r
  cases ha with
  | cons r1 t1 => cases t1 with
    | cons r2 t2 =>
      cases t2
      refine ⟨p, _, rfl, Evl.ex_t e hs, rfl, _, _, rfl, _, _, rfl, rfl, ?_⟩
      refine h _ ?_ fun G2 H2 s => ((S.put r1).put (A := ⟨A.ρ.set j1 (.dat d1), A.μ⟩) r2).step s
      rw [wipe_in _ vs h2, wipe_in _ vs h1]

/-! ### comprehensions over anything -/
def LcJ (K : PySem.W.Frag) (pa : Option Addr) (G1 H1 Gb : Hp) (L : Addr) (P : List PyData → Prop) (n : Nat) (H' : Hp) : Prop :=
  ∃ G' xs acc, Stp K pa G1 H1 G' H' ∧ Ex Gb G' ∧ H' L = some (.lst xs) ∧ G' L = none ∧ DpAll K G' xs acc ∧ xs.length ≤ n ∧ P acc
theorem turn_gen {scope : Scope} {ifs : List Expr} {elt : Expr} {G1 H1 Gb G' : Hp} {L : Addr} {ps : List Addr} {σ2 : L2.St} {A1 : AS} {i : Nat} {H' : Hp} {P' : List PyData → Prop} {xs : List V} {acc : List PyData} (hL : H1 L = none) (hi : i < 10000000)
    (s : Stp X.K c.pa G1 H1 G' H') (eb : Ex Gb G') (hx : H' L = some (.lst xs)) (hg : G' L = none) (ha : DpAll X.K G' xs acc) (hl : xs.length ≤ i) (S' : St X.K c A1 G' ps σ2 H') (ht : Turn X c scope ifs elt A1 acc P') :
    bT X scope ifs σ2 H' fun b H3 => if b = true then bE X scope elt σ2 H3 fun y H4 => ∃ acc, H4 L = some (.lst acc) ∧ acc.length < sizeLine ∧ LcJ X.K c.pa G1 H1 Gb L P' (i + 1) (upd H4 L (.lst (acc ++ [y]))) else LcJ X.K c.pa G1 H1 Gb L P' (i + 1) H3 := by
  have nL : c.pa ≠ some L := fun z => (s.pool L z).1 hL
  intro s0 H0 C cl fp
  refine wTs_mono (ht s0 H0 C cl fp G' ps _ H' S') fun b H3 ⟨G3, s3, q1, q2⟩ => ?_
  have hx3 : H3 L = some (.lst xs) := s3.keep L _ nL hx
  have hg3 : G3 L = none := s3.fr L (by rw [hx]; exact fun z => nomatch z) hg
  cases b with
  | false => exact iteF ⟨G3, xs, acc, s.trans s3, eb.trans s3.ex, hx3, hg3, dp_upAll s3.ex _ ha, Nat.le_succ_of_le hl, q2 rfl⟩
  | true =>
    refine iteT fun s1 H1' C1 cl1 fp1 => wE_mono (q1 rfl s1 H1' C1 cl1 fp1 G3 ps _ H3 (S'.step s3)) fun y H4 ⟨G4, dy, s4, ry, q⟩ => ?_
    have hx4 : H4 L = some (.lst xs) := s4.keep L _ nL hx3
    have hg4 : G4 L = none := s4.fr L (by rw [hx3]; exact fun z => nomatch z) hg3
    refine ⟨xs, hx4, ?_, G4, xs ++ [y], acc ++ [dy], ((s.trans s3).trans s4).mut hL hg4, (eb.trans s3.ex).trans s4.ex, upd_same, hg4, dall_app (dp_upAll (s3.ex.trans s4.ex) _ ha) (.cons ry .nil), by rw [List.length_append]; exact Nat.add_le_add_right hl 1, q⟩
    have : sizeLine = 16777216 := sizeLine_eq
    omega
theorem lcj_end {G H G1 H1 Gb : Hp} {L : Addr} {P Q : List PyData → Prop} {n : Nat} {H' : Hp} (s1 : Stp X.K c.pa G H G1 H1) (hL : H1 L = none) (h : LcJ X.K c.pa G1 H1 Gb L P n H') (q : ∀ acc, P acc → Q acc) : LcW X c G H Q (.ref L) H' := by
  obtain ⟨G', xs, acc, s, eb, hx, hg, ha, hl, hp⟩ := h
  exact lc_end s1 hL ⟨G', xs, acc, s, hx, hg, ha, hl, hp⟩ q
/-- one clause -/
abbrev LcG (X : Cx) (c : Ct) (scope : Scope) (tg it : Expr) (ifs : List Expr) (elt : Expr) (g : TG) (vs : List Nat) (A : AS) (P : Nat → List PyData → Prop) (Q : List PyData → Prop) : Prop :=
  WI X c tg it A fun ds => ds.length ≤ 1000000 ∧ P 0 [] ∧ (∀ i x acc, ds[i]? = some x → P i acc → ∃ A1, TgOk X c g vs ⟨wipeA A.ρ vs, A.μ⟩ x A1 ∧ Turn X c scope ifs elt A1 acc (P (i + 1))) ∧ ∀ acc, P ds.length acc → Q acc
theorem lc_readG {scope : Scope} {elt : Expr} {ifs : List Expr} {g : TG} {vs : List Nat} {P : Nat → List PyData → Prop} {Q : List PyData → Prop} {G : Hp} {ps : List Addr} {σ : L2.St} {H : Hp} (h : LcG X c scope tg it ifs elt g vs A P Q) (S : St X.K c A G ps σ H) :
    tLc (wI X tg it) g (bT X scope ifs) (bE X scope elt) vs σ H (LcW X c G H Q) :=
  wI_mono (h G ps σ H S) fun J H1 ⟨G1, ds, s1, ok, hz, p0, ht, hd⟩ L hL => by
    have S1 := S.step s1
    have Sw := S1.wipe vs
    refine ⟨fun i m H' => m = ds.length - i ∧ i ≤ ds.length ∧ LcJ X.K c.pa G1 H1 G1 L (P i) i H', ⟨_, rfl, Nat.zero_le _, G1, [], [], S1.refl.lay hL, Ex.refl _, upd_same, Evl.fresh_back S1.st.sub hL, .nil, Nat.zero_le _, p0⟩, ?_⟩
    rintro i m H' ⟨rfl, hi, q⟩
    have exH : Ex G1 H' := by
      obtain ⟨G', _, _, s, _⟩ := q
      exact s.ex.trans s.sub
    by_cases hlt : i < ds.length
    · refine .inr ⟨ok.go i H' exH hlt, LcJ X.K c.pa G1 H1 G1 L (P (i + 1)) (i + 1), fun H2 q2 => ⟨ds.length - (i + 1), by omega, rfl, hlt, q2⟩, fun x H2 y => ?_⟩
      obtain ⟨e1, d, hdx, rd⟩ := ok.yld i H' x H2 exH hlt y
      subst e1
      obtain ⟨G', xs, acc, s, eb, hx, hg, ha, hl, hp⟩ := q
      obtain ⟨A1, tk, tn⟩ := ht i d acc hdx hp
      refine tk G1 ps _ H1 x Sw rd _ exH _ fun σ2 hw S2 => ⟨?_, ?_⟩
      · rw [hw, wipe_idem]
      · exact turn_gen hL (by omega) s eb hx hg ha hl (S2 G' _ s) tn
    · have e : i = ds.length := by omega
      subst e
      exact .inl ⟨ok.stop _ H' exH (Nat.le_refl _), lcj_end s1 hL q hd⟩
/-- two clauses, both without tests ahead of the second -/
def bI (X : Cx) (scope : Scope) (tg it : Expr) : TI := fun σ H R => ∀ (s : Shared) (H0 : Hp) (C : Addr) (cl : List (Str × Addr)) (fp : List Addr), wI (X.blk s H0 scope (compEnvC scope cl C X.env) fp) tg it σ H R
theorem bI_ok {scope : Scope} {s : Shared} {H : Hp} {C : Addr} {cl : List (Str × Addr)} {fp : List Addr} : PI (X.blk s H scope (compEnvC scope cl C X.env) fp) tg it (bI X scope tg it) := ⟨fun pins s0 _ _ _ I h => h s H C cl fp pins s0 I⟩
abbrev Lc2G (X : Cx) (c : Ct) (scope : Scope) (tg it tg1 it1 : Expr) (ifs1 : List Expr) (elt : Expr) (g g1 : TG) (vs vs1 : List Nat) (A : AS) (P : Nat → List PyData → Prop) (Q : List PyData → Prop) : Prop :=
  WI X c tg it A fun ds => ds.length ≤ 1000 ∧ P 0 [] ∧ (∀ i x acc, ds[i]? = some x → P i acc → ∃ A1, TgOk X c g vs ⟨wipeA A.ρ vs, A.μ⟩ x A1 ∧ ∀ (s : Shared) (H0 : Hp) (C : Addr) (cl : List (Str × Addr)) (fp : List Addr), WI (X.blk s H0 scope (compEnvC scope cl C X.env) fp) c tg1 it1 A1 fun ds1 =>
    ds1.length ≤ 1000 ∧ ∃ R : Nat → List PyData → Prop, R 0 acc ∧ (∀ k y acc, ds1[k]? = some y → R k acc → ∃ A2, TgOk X c g1 vs1 ⟨wipeA A1.ρ vs1, A1.μ⟩ y A2 ∧ Turn X c scope ifs1 elt A2 acc (R (k + 1))) ∧ ∀ acc, R ds1.length acc → P (i + 1) acc) ∧ ∀ acc, P ds.length acc → Q acc
theorem lc_read2 {scope : Scope} {elt tg1 it1 : Expr} {ifs1 : List Expr} {g g1 : TG} {vs vs1 : List Nat} {P : Nat → List PyData → Prop} {Q : List PyData → Prop} {G : Hp} {ps : List Addr} {σ : L2.St} {H : Hp} (h : Lc2G X c scope tg it tg1 it1 ifs1 elt g g1 vs vs1 A P Q) (S : St X.K c A G ps σ H) :
    tLc2 (wI X tg it) g tYes (bI X scope tg1 it1) g1 (bT X scope ifs1) (bE X scope elt) vs vs1 σ H (LcW X c G H Q) :=
  wI_mono (h G ps σ H S) fun J H1 ⟨G1, ds, s1, ok, hz, p0, ht, hd⟩ L hL => by
    have S1 := S.step s1
    have Sw := S1.wipe vs
    refine ⟨fun i m H' => m = ds.length - i ∧ i ≤ ds.length ∧ LcJ X.K c.pa G1 H1 G1 L (P i) (i * 1000) H', ⟨_, rfl, Nat.zero_le _, G1, [], [], S1.refl.lay hL, Ex.refl _, upd_same, Evl.fresh_back S1.st.sub hL, .nil, Nat.zero_le _, p0⟩, ?_⟩
    rintro i m H' ⟨rfl, hi, q⟩
    have exH : Ex G1 H' := by
      obtain ⟨G', _, _, s, _⟩ := q
      exact s.ex.trans s.sub
    by_cases hlt : i < ds.length
    · refine .inr ⟨ok.go i H' exH hlt, LcJ X.K c.pa G1 H1 G1 L (P (i + 1)) ((i + 1) * 1000), fun H2 q2 => ⟨ds.length - (i + 1), by omega, rfl, hlt, q2⟩, fun x H2 y => ?_⟩
      obtain ⟨e1, d, hdx, rd⟩ := ok.yld i H' x H2 exH hlt y
      subst e1
      obtain ⟨G', xs, acc, s, eb, hx, hg, ha, hl, hp⟩ := q
      obtain ⟨A1, tk, tn⟩ := ht i d acc hdx hp
      refine tk G1 ps _ H1 x Sw rd _ exH _ fun σ2 hw S2 => ⟨by rw [hw, wipe_idem], ?_⟩
      unfold tYes
      dsimp only
      rw [if_pos rfl]
      intro f1 f2 f3 f4 f5
      refine wI_mono (tn f1 f2 f3 f4 f5 G' ps σ2 _ (S2 G' _ s)) fun J1 H4 ⟨G4, ds1, s4, ok1, hz1, R, r0, rt, rd1⟩ => ?_
      have nL : c.pa ≠ some L := fun z => (s.pool L z).1 hL
      have Sb := (S2 G1 H1 S1.refl).wipe vs1
      refine ⟨fun j m H' => m = ds1.length - j ∧ j ≤ ds1.length ∧ LcJ X.K c.pa G1 H1 G4 L (R j) (i * 1000 + j) H', ⟨_, rfl, Nat.zero_le _, G4, xs, acc, s.trans s4, Ex.refl _, s4.keep L _ nL hx, s4.fr L (by rw [hx]; exact fun z => nomatch z) hg, dp_upAll s4.ex _ ha, hl, r0⟩, ?_⟩
      rintro j m H5 ⟨rfl, hj, q5⟩
      have ex5 : Ex G4 H5 := by
        obtain ⟨Gx, _, _, s5, eb5, _⟩ := q5
        exact eb5.trans s5.sub
      by_cases hjl : j < ds1.length
      · refine .inr ⟨ok1.go j H5 ex5 hjl, LcJ X.K c.pa G1 H1 G4 L (R (j + 1)) (i * 1000 + j + 1), fun H6 q6 => ⟨ds1.length - (j + 1), by omega, rfl, hjl, q6⟩, fun x1 H6 y1 => ?_⟩
        obtain ⟨e1, d1, hdy, rdy⟩ := ok1.yld j H5 x1 H6 ex5 hjl y1
        subst e1
        obtain ⟨Gx, xs5, acc5, s5, eb5, hx5, hg5, ha5, hl5, hp5⟩ := q5
        obtain ⟨A2, tk2, tn2⟩ := rt j d1 acc5 hdy hp5
        refine tk2 Gx ps _ _ x1 (Sb.step s5) (dp_up eb5 d1 rdy) _ s5.sub _ fun σ3 hw3 S3 => ⟨by rw [hw3, wipe_idem], ?_⟩
        exact turn_gen hL (by omega) s5 eb5 hx5 hg5 ha5 hl5 (S3 Gx _ s5.refl) tn2
      · have e : j = ds1.length := by omega
        subst e
        obtain ⟨Gx, xs5, acc5, s5, eb5, hx5, hg5, ha5, hl5, hp5⟩ := q5
        exact .inl ⟨ok1.stop _ H5 ex5 (Nat.le_refl _), Gx, xs5, acc5, s5, s5.ex, hx5, hg5, ha5, by omega, rd1 acc5 hp5⟩
    · have e : i = ds.length := by omega
      subst e
      exact .inl ⟨ok.stop _ H' exH (Nat.le_refl _), lcj_end s1 hL q hd⟩
/-! ### as expressions and as stores -/
variable {scope : Scope} {elt tg1 it1 : Expr} {ifs ifs1 : List Expr} {own : List (Str × Nat)} {g g1 : TG} {vs1 : List Nat} {P : Nat → List PyData → Prop} {Ql : List PyData → Prop}
theorem wl_lcG (ok : BlkOk X.N X.env.scope scope own) (hg : ∀ (s : Shared) (H : Hp) (C : Addr) (cl : List (Str × Addr)) (fp : List Addr), PG (X.blk s H scope (compEnvC scope cl C X.env) fp) tg g) (h : LcG X c scope tg it ifs elt g (own.map (·.2)) A P Ql) (nd : X.N.Nodup)
    (hc : X.calm = true := by rfl) (hs : ∀ x, foldedSetIterable it X.env x = pure x := by intro _; rfl) : WL X c (.ListComp elt [⟨tg, it, ifs, 0⟩] scope pos) A Ql := fun G ps σ H S =>
  wE_of (pe_lc hc nd pi_w ok hg (fun _ _ _ _ _ => bT_ok) (fun _ _ _ _ _ => bE_ok) hs) (lc_readG h S)
theorem ws_lcG {i : Nat} {y : Str} {py spos : Pos} (ok : BlkOk X.N X.env.scope scope own) (hg : ∀ (s : Shared) (H : Hp) (C : Addr) (cl : List (Str × Addr)) (fp : List Addr), PG (X.blk s H scope (compEnvC scope cl C X.env) fp) tg g) (h : LcG X c scope tg it ifs elt g (own.map (·.2)) A P fun ds => D.nx ⟨A.ρ.set i (.own A.μ.length), A.μ ++ [some ds]⟩) (nd : X.N.Nodup)
    (hy : X.N[i]? = some y := by rfl) (hyl : X.env.scope.names.lookup y = some .local := by rfl) (hsw : swapsWith (.ListComp elt [⟨tg, it, ifs, 0⟩] scope pos) (some (.Name y py)) spos.line X.env = pure true := by exact sw_true rfl rfl rfl (by decide +kernel)) (hc : X.calm = true := by rfl) (hs : ∀ x, foldedSetIterable it X.env x = pure x := by intro _; rfl) :
    WS X c (.Assign [.Name y py] (.ListComp elt [⟨tg, it, ifs, 0⟩] scope pos) spos) A D := fun G ps σ H S =>
  wS_of (ps_setLc hc nd hy hyl hsw pi_w ok hg (fun _ _ _ _ _ => bT_ok) (fun _ _ _ _ _ => bE_ok) hs) (tLc_mono (fun σ H R R' h k => wI_mono h k) (lc_readG h S) fun v H' q => setLc_end S q)
theorem tLc2_mono {wi wi1 : TI} {g g1 : TG} {tt tt1 : TT} {te : TE} {vs vs1 : List Nat} {σ : L2.St} {H : Hp} {Q Q' : VK} (hw : ∀ σ H (R R' : It → Hp → Prop), wi σ H R → (∀ J H', R J H' → R' J H') → wi σ H R') (h : tLc2 wi g tt wi1 g1 tt1 te vs vs1 σ H Q) (k : ∀ v H', Q v H' → Q' v H') : tLc2 wi g tt wi1 g1 tt1 te vs vs1 σ H Q' :=
  hw σ H _ _ h fun J H1 r D hD => by
    obtain ⟨W, w0, hW⟩ := r D hD
    refine ⟨W, w0, fun i m H' w => ?_⟩
    rcases hW i m H' w with ⟨z, q⟩ | z
    · exact .inl ⟨z, k _ _ q⟩
    · exact .inr z
theorem ws_lc2 {i : Nat} {y : Str} {py spos : Pos} (ok : BlkOk X.N X.env.scope scope own) (hv : ∀ i ∈ vs1, i ∈ own.map (·.2)) (hg : ∀ (s : Shared) (H : Hp) (C : Addr) (cl : List (Str × Addr)) (fp : List Addr), PG (X.blk s H scope (compEnvC scope cl C X.env) fp) tg g) (hg1 : ∀ (s : Shared) (H : Hp) (C : Addr) (cl : List (Str × Addr)) (fp : List Addr), PG (X.blk s H scope (compEnvC scope cl C X.env) fp) tg1 g1)
    (h : Lc2G X c scope tg it tg1 it1 ifs1 elt g g1 (own.map (·.2)) vs1 A P fun ds => D.nx ⟨A.ρ.set i (.own A.μ.length), A.μ ++ [some ds]⟩) (nd : X.N.Nodup)
    (hy : X.N[i]? = some y := by rfl) (hyl : X.env.scope.names.lookup y = some .local := by rfl) (hsw : swapsWith (.ListComp elt [⟨tg, it, [], 0⟩, ⟨tg1, it1, ifs1, 0⟩] scope pos) (some (.Name y py)) spos.line X.env = pure true := by exact sw_true rfl rfl rfl (by decide +kernel)) (hc : X.calm = true := by rfl) (hs : ∀ x, foldedSetIterable it X.env x = pure x := by intro _; rfl) (hs1 : ∀ env x, foldedSetIterable it1 env x = pure x := by intro _ _; rfl) :
    WS X c (.Assign [.Name y py] (.ListComp elt [⟨tg, it, [], 0⟩, ⟨tg1, it1, ifs1, 0⟩] scope pos) spos) A D := fun G ps σ H S =>
  wS_of (ps_setLc2 hc nd hy hyl hsw pi_w ok hv hg (fun _ _ _ _ _ => pts_nil) (fun _ _ _ _ _ => bI_ok) hg1 (fun _ _ _ _ _ => bT_ok) (fun _ _ _ _ _ => bE_ok) hs hs1) (tLc2_mono (fun σ H R R' h k => wI_mono h k) (lc_read2 h S) fun v H' q => setLc_end S q)

/-! ### a < b < c, in a tuple, pop -/
theorem wt_leLt {e1 e2 e3 : Expr} {Q : Bool → Prop} (h : WE X c e1 A fun d1 => ∃ i, d1 = .int i ∧ WE X c e2 A fun d2 => ∃ j, d2 = .int j ∧ (decide (i ≤ j) = true → WE X c e3 A fun d3 => ∃ k, d3 = .int k ∧ Q (decide (j < k))) ∧ (decide (i ≤ j) = false → Q false))
    (hm : lastMarks [.LtE, .Lt] [e2, e3] = false := by with_unfolding_all rfl) : WT X c (.Compare e1 [.LtE, .Lt] [e2, e3] pos) A Q := fun G ps σ H S =>
  wT_of (pt_chain op_le op_lt pe_w pe_w pe_w hm) (wE_mono (h G ps σ H S) fun v1 H1 ⟨G1, d1, s1, r1, i, e1, q1⟩ => by
    subst e1
    rw [dp_int r1]
    refine wE_mono (q1 G1 ps σ H1 (S.step s1)) fun v2 H2 ⟨G2, d2, s2, r2, j, e2, q2, q3⟩ => ?_
    subst e2
    rw [dp_int r2]
    refine ⟨i, j, rfl, rfl, decide (i ≤ j), rfl, ?_⟩
    cases hd : decide (i ≤ j) with
    | true =>
      rw [if_pos rfl]
      refine wE_mono (q2 hd G2 ps σ H2 ((S.step s1).step s2)) fun v3 H3 ⟨G3, d3, s3, r3, k, e3, q⟩ => ?_
      subst e3
      rw [dp_int r3]
      exact ⟨j, k, rfl, rfl, _, rfl, G3, (s1.trans s2).trans s3, q⟩
    | false =>
      rw [if_neg Bool.false_ne_true]
      exact ⟨false, rfl, G2, s1.trans s2, q3 hd⟩)
theorem od_in2 {i x y : Int} (q : Q (.bool (decide (i = x) || decide (i = y)))) : OpD X c (compareOp .In) (.int i) (.tuple [.int x, .int y]) Q :=
  ⟨_, op_in_seq, fun _ _ G H v1 v2 s h1 h2 => by
    obtain ⟨p, xs, rfl, hs, ha⟩ := dp_tup h2
    cases ha with
    | cons r1 t1 => cases t1 with
      | cons r2 t2 =>
        cases t2
        cases r1; cases r2
        rw [dp_int h1]
        refine ⟨p, _, rfl, .inr (Evl.ex_t s.sub hs), rfl, rfl, G, _, s.refl, .bl _, ?_⟩
        have e : inV (V.int i) [V.int x, V.int y] = (decide (i = x) || decide (i = y)) := by
          unfold inV
          rw [List.any_cons, List.any_cons, List.any_nil, Bool.or_false]
          show ((x == i) || (y == i)) = _
          rw [Bool.beq_eq_decide_eq, Bool.beq_eq_decide_eq, show decide (x = i) = decide (i = x) from decide_eq_decide.mpr eq_comm, show decide (y = i) = decide (i = y) from decide_eq_decide.mpr eq_comm]
        show Q (.bool (if false = true then !inV (V.int i) [V.int x, V.int y] else inV (V.int i) [V.int x, V.int y]))
        rw [if_neg Bool.false_ne_true, e]
        exact q⟩
/-- x.pop() of a list of one's own, the item dropped -/
theorem ws_pop {i k : Nat} {x : Str} {px apos cpos : Pos} {ds : List PyData} (hN : N[i]? = some x) (eN : X.N = N) (hρ : A.ρ[i]? = some (.own k)) (hm : A.μ[k]? = some (some ds)) (hz : 0 < ds.length) (hv : Vis X.env.scope x) (hd : ((x == ("__debug__" : Str)) = false) ∧ (x == ("__classdict__" : Str)) = false)
    (hbase : attributeBase (.Name x px) "pop" X.env (eval (.Name x px) X.env) = eval (.Name x px) X.env) (hline : (apos.endLine == cpos.line) = true)
    (hsw : swapsWith (.Call (.Attribute (.Name x px) "pop" apos) [] [] cpos) none pos.line X.env = pure false)
    (h : D.nx ⟨A.ρ, A.μ.set k (some ds.dropLast)⟩) : WS X c (.Expr (.Call (.Attribute (.Name x px) "pop" apos) [] [] cpos) pos) A D := fun G ps σ H S => by
  obtain ⟨p, hp, hsl⟩ := S.sl i _ hρ
  obtain ⟨g, xs, hx, ha⟩ := S.mu k p ds hp hm
  have hl := dall_len ha
  have drop : ∀ {vs : List V} {ds : List PyData}, DpAll X.K G vs ds → DpAll X.K G vs.dropLast ds.dropLast := fun {vs ds} h => by
    rw [List.dropLast_eq_take, List.dropLast_eq_take, dall_len h]
    exact dall_take _ h
  refine wS_of (ps_expr (pe_bm0 PySem.F.plainAttrs_list PySem.F.slot_list_pop PySem.F.type_list_pop mt_pop (pe_var (by rw [eN]; exact hN) hv hd.1 hd.2) hbase hline) hsw) ?_
  refine ⟨.ref p, hsl, .inl ⟨rfl, xs, .inl (.inl hx)⟩, p, xs, xs[xs.length - 1]'(by omega), rfl, rfl, hx, List.getElem?_eq_getElem _, ?_⟩
  exact ⟨_, G, ps, Ex.refl G, S.chg hp hm (drop ha), h⟩
end
end Eng

set_option Elab.async false
set_option linter.all false
set_option maxRecDepth 100000
set_option maxHeartbeats 2000000
namespace Eng
open PySem PySem.Spec PyProof.Rows L2
open Evl (Ex)
/-! ### displayed dicts, asked at once -/
def keyD : Key → PyData
  | .inl i => .int i
  | .inr z => .str z
def WPr (X : Cx) (c : Ct) : List (Option Expr) → List Expr → AS → (List (Key × PyData) → Prop) → Prop
  | some k :: ks, v :: vs, A, Q => WE X c k A fun dk => ∃ ky : Key, dk = keyD ky ∧ WE X c v A fun dv => WPr X c ks vs A fun ps => Q ((ky, dv) :: ps)
  | [], [], _, Q => Q []
  | _, _, _, _ => False
def trsOf (X : Cx) : List (Option Expr) → List Expr → List (TE × TE)
  | some k :: ks, v :: vs => (wE X k, wE X v) :: trsOf X ks vs
  | _, _ => []
inductive KvOk (K : PySem.W.Frag) (G : Hp) : List (Key × V) → List (Key × PyData) → Prop
  | nil : KvOk K G [] []
  | cons {k : Key} {v : V} {d : PyData} {kvs : List (Key × V)} {kds : List (Key × PyData)} : Dp K G v d → KvOk K G kvs kds → KvOk K G ((k, v) :: kvs) ((k, d) :: kds)
theorem KvOk.up {K : PySem.W.Frag} {G G' : Hp} (e : Ex G G') : ∀ {kvs : List (Key × V)} {kds : List (Key × PyData)}, KvOk K G kvs kds → KvOk K G' kvs kds
  | _, _, .nil => .nil
  | _, _, .cons r t => .cons (dp_up e _ r) (t.up e)
theorem KvOk.len {K : PySem.W.Frag} {G : Hp} : ∀ {kvs : List (Key × V)} {kds : List (Key × PyData)}, KvOk K G kvs kds → kvs.length = kds.length
  | _, _, .nil => rfl
  | _, _, .cons _ t => congrArg (· + 1) t.len
def getK (k : Key) (o : Option PyData) : List (Key × PyData) → Option PyData
  | [] => o
  | kd :: r => getK k (if k = kd.1 then some kd.2 else o) r
theorem merge_get {K : PySem.W.Frag} {G : Hp} (k : Key) : ∀ {kvs : List (Key × V)} {kds : List (Key × PyData)} (acc : List (Key × V)) (o : Option PyData), KvOk K G kvs kds → (∀ d, o = some d → ∃ v, valV acc k = some v ∧ Dp K G v d) → ∀ d, getK k o kds = some d → ∃ v, valV (mergeK acc kvs) k = some v ∧ Dp K G v d
  | _, _, acc, o, .nil, h, d, e => h d e
  | (k1, v1) :: kvs, (_, d1) :: kds, acc, o, .cons r t, h, d, e => by
    show ∃ v, valV (mergeK (putK acc k1 v1) kvs) k = some v ∧ Dp K G v d
    refine merge_get k (putK acc k1 v1) (if k = k1 then some d1 else o) t (fun d2 e2 => ?_) d e
    rw [valV_put]
    by_cases hk : k = k1
    · rw [if_pos hk] at e2 ⊢
      injection e2 with e2
      exact ⟨v1, rfl, e2 ▸ r⟩
    · rw [if_neg hk] at e2 ⊢
      exact h d2 e2
theorem kv_of {K : PySem.W.Frag} {G : Hp} {v : V} {k : Key} (r : Dp K G v (keyD k)) : v = kV k := by
  cases k with
  | inl i => exact dp_int r
  | inr z => cases r; rfl
section
variable {X : Cx} {c : Ct} {A : AS} {e a b i : Expr} {es : List Expr} {pos p p2 : Pos} {Q : PyData → Prop} {st : Stmt} {sts rest body : List Stmt} {D : ADs} {N : List Str}
theorem pps_of : ∀ (ks : List (Option Expr)) (vs : List Expr), ks.all (fun x => x.isSome) = true → ks.length = vs.length → PPs X pos ks vs (trsOf X ks vs)
  | [], [], _, _ => pps_nil
  | some k :: ks, v :: vs, h, hl => pps_cons pe_w pe_w (pps_of ks vs (by simpa using h) (Nat.succ.inj hl))
  | none :: _, _, h, _ => by simp at h
  | [], _ :: _, _, hl => by cases hl
  | some _ :: _, [], _, hl => by cases hl
theorem tpr_ok : ∀ (ks : List (Option Expr)) (vs : List Expr) (Q : List (Key × PyData) → Prop) (G : Hp) (ps : List Addr) (σ : L2.St) (H : Hp), St X.K c A G ps σ H → WPr X c ks vs A Q → ∀ k : List (V × V) → Hp → Prop,
    (∀ G' H' kvs kds, Stp X.K c.pa G H G' H' → KvOk X.K G' kvs kds → Q kds → k (kvs.map fun kv => (kV kv.1, kv.2)) H') → tPairs (trsOf X ks vs) σ H k
  | [], [], Q, G, ps, σ, H, S, h, k, hk => hk G H [] [] S.refl .nil h
  | some e :: ks, v :: vs, Q, G, ps, σ, H, S, h, k, hk => by
    refine wE_mono (h G ps σ H S) fun x H1 ⟨G1, d1, s1, r1, ky, e1, q1⟩ => ?_
    subst e1
    refine wE_mono (q1 G1 ps σ H1 (S.step s1)) fun y H2 ⟨G2, d2, s2, r2, q2⟩ => ?_
    refine tpr_ok ks vs _ G2 ps σ H2 ((S.step s1).step s2) q2 _ fun G' H' kvs kds s3 ok q => ?_
    have hx := kv_of r1
    subst hx
    exact hk G' H' ((ky, y) :: kvs) _ ((s1.trans s2).trans s3) (.cons (dp_up s3.ex _ r2) ok) q
  | none :: _, _, _, _, _, _, _, _, h, _, _ => by cases h
  | [], _ :: _, _, _, _, _, _, _, h, _, _ => by cases h
  | some _ :: _, [], _, _, _, _, _, _, h, _, _ => by cases h
/-- {..}[i] -/
theorem we_dix {ks : List (Option Expr)} {vs : List Expr} (hu : X.A.units + 1 < cLine) (h : WPr X c ks vs A fun kds => kds.length ≤ 15 ∧ WE X c i A fun d2 => ∃ k d, d2 = keyD k ∧ getK k none kds = some d ∧ Q d)
    (hall : ks.all (fun x => x.isSome) = true) (hl : ks.length = vs.length) (h0 : ks ≠ []) (h15 : ks.length ≤ 15) (hs : NoSl i) : WE X c (.Subscript (.Dict ks vs p2) i pos) A Q := fun G ps σ H S =>
  wE_of (pe_dget hu (pe_disp (pps_of ks vs hall hl) hall hl h0 h15) pe_w hs) fun P hP => by
    have s0 := S.refl.lay (o := .dK []) hP
    have nL : c.pa ≠ some P := fun z => (S.refl.pool P z).1 hP
    have gP : G P = none := Evl.fresh_back S.st.sub hP
    refine tpr_ok ks vs _ G ps σ _ (S.step s0) h _ fun G1 H1 kvs kds s1 ok ⟨hk, q⟩ => ?_
    have hP1 : H1 P = some (.dK []) := s1.keep P _ nL upd_same
    have gP1 : G1 P = none := s1.fr P (by rw [upd_same]; exact fun z => nomatch z) gP
    refine ⟨hP1, kvs, rfl, by rw [ok.len]; exact hk, ?_⟩
    have s2 := (s0.trans s1).mut (o := .dK (mergeK [] kvs)) hP gP1
    refine wE_mono (q G1 ps σ _ (S.step s2)) fun y H3 ⟨G3, d2, s3, r2, k, d, e2, eg, qq⟩ => ?_
    subst e2
    obtain ⟨v, ev, rv⟩ := merge_get k [] none (ok.up s3.ex) (fun d z => nomatch z) d eg
    exact ⟨P, v, rfl, .inl ⟨_, k, .inl (s3.keep P _ nL upd_same), kv_of r2, ev.symm⟩, G3, d, s2.trans s3, rv, qq⟩
end
end Eng

set_option Elab.async false
set_option linter.all false
set_option maxRecDepth 100000
set_option maxHeartbeats 2000000
namespace Eng
open PySem PySem.Spec PyProof.Rows L2
open Evl (Ex)
section
variable {X : Cx} {c : Ct} {A A0 A1 A2 : AS} {e a b n tg it : Expr} {es : List Expr} {pos p p2 : Pos} {Q : PyData → Prop} {st : Stmt} {sts rest body : List Stmt} {D : ADs} {N : List Str} {vs : List Nat}
/-! ### x.extend(e), both lists new -/
theorem ws_ext {i k : Nat} {x : Str} {px apos cpos : Pos} {ds : List PyData} (hN : N[i]? = some x) (eN : X.N = N) (hρ : A.ρ[i]? = some (.own k)) (hm : A.μ[k]? = some (some ds)) (hv : Vis X.env.scope x) (hd : ((x == ("__debug__" : Str)) = false) ∧ (x == ("__classdict__" : Str)) = false)
    (hbase : attributeBase (.Name x px) "extend" X.env (eval (.Name x px) X.env) = eval (.Name x px) X.env)
    (hfew : ((backTo cpos (starEach [e] X.env)).all (fun x => !x.1) && (backToKw cpos (keywordEach [] X.env)).all (fun x => x.1.isSome) && decide ([e].length + ([] : List Keyword).length + (if ([] : List Keyword).isEmpty then 0 else 1) < 30)) = true)
    (hline : (apos.endLine == cpos.line) = true) (hs : starEach [e] X.env = (false, eval e X.env) :: starEach [] X.env) (hplain : (backTo cpos (starEach [] X.env)).any (·.1) = false)
    (hsw : swapsWith (.Call (.Attribute (.Name x px) "extend" apos) [e] [] cpos) none pos.line X.env = pure false)
    (h : WL X c e A fun es => ds.length + es.length ≤ 100000 ∧ D.nx ⟨A.ρ, A.μ.set k (some (ds ++ es))⟩) :
    WS X c (.Expr (.Call (.Attribute (.Name x px) "extend" apos) [e] [] cpos) pos) A D := fun G ps σ H S => by
  obtain ⟨p, hp, hsl⟩ := S.sl i _ hρ
  obtain ⟨g, xs, hx, ha⟩ := S.mu k p ds hp hm
  refine wS_of (ps_expr (pe_bm PySem.F.plainAttrs_list PySem.F.slot_list_extend PySem.F.type_list_extend mt_extend (pe_var (by rw [eN]; exact hN) hv hd.1 hd.2) (pa_cons pe_w pa_nil hs) hbase hfew hline hs hplain) hsw) ?_
  refine ⟨.ref p, hsl, .inl ⟨rfl, xs, .inl (.inl hx)⟩, wE_mono (h G ps σ H S) fun v H1 ⟨G1, es, s1, ⟨b, zs, ev, _, _, hb, hz⟩, hl, q⟩ => ?_⟩
  subst ev
  have S1 := S.step s1
  obtain ⟨g1, ys, hy, hyd⟩ := S1.mu k p ds hp hm
  exact ⟨p, b, ys, zs, rfl, rfl, hy, hb, by rw [dall_len hyd, dall_len hz]; exact Evl.sz_of hl, _, G1, ps, s1.ex, S1.chg hp hm (dall_app hyd hz), q⟩
/-! ### list(range(n)) -/
theorem wl_lrg {Q : List PyData → Prop} {p3 : Pos} (hmr : X.mg "range" = none) (hml : X.mg "list" = none) (h : WE X c n A fun d => ∃ m : Nat, d = .int (m : Int) ∧ m ≤ 100000 ∧ Q (rngD m))
    (hc : X.calm = true := by rfl) (hgr : Gl X "range" := by rfl) (hgl : Gl X "list" := by rfl) (hst : starEach [n] X.env = (false, eval n X.env) :: starEach [] X.env := by rfl) (hst2 : starEach [.Call (.Name "range" p) [n] [] p2] X.env = (false, eval (.Call (.Name "range" p) [n] [] p2) X.env) :: starEach [] X.env := by rfl) :
    WL X c (.Call (.Name "list" p3) [.Call (.Name "range" p) [n] [] p2] [] pos) A Q := fun G ps σ H S =>
  wE_of (pe_listRg hc hgl hml (prg_1 hgr hmr pe_w hst) hst2) (wE_mono (h G ps σ H S) fun v H1 ⟨G1, d, s1, r1, m, e1, hm, q⟩ => by
    subst e1
    refine ⟨(m : Int), by rw [dp_int r1], ⟨by decide, by decide, by omega, by omega, by omega⟩, fun P hP => ?_⟩
    refine ⟨G1, _, s1.trans (s1.lay hP), ⟨P, _, rfl, ?_, Evl.fresh_back s1.sub hP, upd_same, ?_⟩, q⟩
    · cases q2 : H P with
      | none => rfl
      | some o => exact absurd hP (s1.live P (by rw [q2]; exact fun z => nomatch z))
    · have e : rgV 0 (m : Int) = (List.range m).map fun (k : Nat) => V.int (k : Int) := by
        unfold rgV
        rw [show ((m : Int) - 0).toNat = m by omega]
        exact List.map_congr_left fun k _ => by rw [Int.zero_add]
      rw [e]
      unfold rngD
      have go : ∀ l : List Nat, DpAll X.K G1 (l.map fun (k : Nat) => V.int (k : Int)) (l.map fun (k : Nat) => PyData.int (k : Int)) := fun l => by
        induction l with
        | nil => exact .nil
        | cons a t ih => exact .cons (.int _) ih
      exact go _)
/-! ### targets of several names -/
def TgsOk (X : Cx) (c : Ct) (gs : TGs) (vs : List Nat) (A0 : AS) (ds : List PyData) (A1 : AS) : Prop := ∀ G ps σ H xs, St X.K c A0 G ps σ H → DpAll X.K G xs ds → ∀ H', Ex G H' → ∀ k : L2.St → Hp → Prop, (∀ σ2, L2.wipe σ2 vs = L2.wipe σ vs → (∀ G2 H2, Stp X.K c.pa G H G2 H2 → St X.K c A1 G2 ps σ2 H2) → k σ2 H') → gs xs σ H' k
theorem tgs_nil : TgsOk X c gNil vs A [] A := fun G ps σ H xs S r H' e k h => by
  cases r
  exact ⟨rfl, h σ rfl fun G2 H2 s => S.step s⟩
theorem tgs_cons {g : TG} {gs : TGs} {d : PyData} {ds : List PyData} (h1 : TgOk X c g vs A0 d A1) (h2 : TgsOk X c gs vs A1 ds A2) : TgsOk X c (gCons g gs) vs A0 (d :: ds) A2 := fun G ps σ H xs S r H' e k h => by
  cases r with
  | cons r1 t1 =>
    refine ⟨_, _, rfl, h1 G ps σ H _ S r1 H' e _ fun σ2 hw S2 => ?_⟩
    exact h2 G ps σ2 H _ (S2 G H S.refl) t1 H' e _ fun σ3 hw3 S3 => h σ3 (hw3.trans hw) S3
theorem tg_tup {gs : TGs} {ds : List PyData} {m : Nat} (hl : ds.length = m) (h : TgsOk X c gs vs A0 ds A1) : TgOk X c (gTup X.K m gs) vs A0 (.tuple ds) A1 := fun G ps σ H v S r H' e k q => by
  obtain ⟨p, xs, rfl, hs, ha⟩ := dp_tup r
  exact ⟨p, xs, rfl, Evl.ex_t e hs, by rw [dall_len ha]; exact hl, h G ps σ H xs S ha H' e k q⟩
/-! ### enumerate -/
def enumD (ds : List PyData) : List PyData := ds.mapIdx fun (i : Nat) d => PyData.tuple [.int (i : Int), d]
theorem enumD_get {ds : List PyData} {i : Nat} {d : PyData} (h : ds[i]? = some d) : (enumD ds)[i]? = some (.tuple [.int (i : Int), d]) := by
  unfold enumD
  rw [List.getElem?_mapIdx, h]; rfl
theorem enumD_inv {ds : List PyData} {i : Nat} {x : PyData} (h : (enumD ds)[i]? = some x) : ∃ d, ds[i]? = some d ∧ x = .tuple [.int (i : Int), d] := by
  unfold enumD at h
  rw [List.getElem?_mapIdx] at h
  cases hd : ds[i]? with
  | none => rw [hd] at h; cases h
  | some d => rw [hd] at h; exact ⟨d, rfl, (Option.some.inj h).symm⟩
theorem enumD_len (ds : List PyData) : (enumD ds).length = ds.length := by unfold enumD; rw [List.length_mapIdx]
/-- walks whose items may be new -/
structure ItY (K : PySem.W.Frag) (pa : Option Addr) (J : It) (G : Hp) (ds : List PyData) : Prop where
  go : ∀ i H, Ex G H → i < ds.length → J.go i H
  stop : ∀ i H, Ex G H → ds.length ≤ i → J.stop i H
  yld : ∀ G0 H0 G1 i H x H', Ex G G1 → Stp K pa G0 H0 G1 H → i < ds.length → J.yld i H x H' → ∃ G2 d, Stp K pa G1 H G2 H' ∧ ds[i]? = some d ∧ Dp K G2 x d
theorem ity_enum {K : PySem.W.Frag} {pa : Option Addr} {G : Hp} {a : Addr} {xs : List V} {ds : List PyData} (h : SqL K G a xs) (ha : DpAll K G xs ds) : ItY K pa (Ite K a) G (enumD ds) where
  go := fun i H e l => by
    rw [enumD_len] at l
    exact ⟨xs, xs[i]'(by rw [dall_len ha]; exact l), Evl.ex_l e h, List.getElem?_eq_getElem _⟩
  stop := fun i H e l => by
    rw [enumD_len] at l
    exact ⟨xs, Evl.ex_l e h, by rw [dall_len ha]; exact l⟩
  yld := fun G0 H0 G1 i H x H' e s l y => by
    obtain ⟨T, x0, rfl, hT, rfl, hx⟩ := y
    obtain ⟨d, hd, r⟩ := dall_getV ha (hx xs (Evl.ex_l s.sub (Evl.ex_l e h)))
    have n := s.new (o := .tup [.int (i : Nat), x0]) hT
    exact ⟨_, _, n, enumD_get hd, .tup (.inl (.inl upd_same)) (.cons (.int _) (.cons (dp_up (fun b o z => n.ex b o (e b o z)) d r) .nil))⟩
def WIY (X : Cx) (c : Ct) (tg it : Expr) (A : AS) (Q : List PyData → Prop) : Prop := ∀ G ps σ H, St X.K c A G ps σ H → wI X tg it σ H fun J H' => ∃ G' ds, Stp X.K c.pa G H G' H' ∧ ItY X.K c.pa J G' ds ∧ Q ds
theorem wiy_enum {Q : List PyData → Prop} {elts : List Expr} {kk : Nat} {tpos : Pos} (hm : X.mg "enumerate" = none) (h : WE X c e A fun d => ∃ ds, d = .list ds ∧ Q (enumD ds)) (hg : Gl X "enumerate" := by rfl) (hst : starEach [e] X.env = (false, eval e X.env) :: starEach [] X.env := by rfl) (hst2 : starEach [e] X.env = [(false, eval e X.env)] := by rfl) :
    WIY X c (.Tuple elts kk tpos) (.Call (.Name "enumerate" p) [e] [] p2) A Q := fun G ps σ H S =>
  wI_of (pi_enum hg hm (pa_cons pe_w pa_nil hst) hst2) (wE_mono (h G ps σ H S) fun v H1 ⟨G1, d, s1, r1, ds, e1, q⟩ => by
    subst e1
    obtain ⟨p, xs, rfl, hx, ha⟩ := dp_list r1
    exact ⟨p, xs, rfl, Evl.ex_l s1.sub hx, G1, _, s1, ity_enum hx ha, q⟩)
abbrev LcY (X : Cx) (c : Ct) (scope : Scope) (tg it : Expr) (ifs : List Expr) (elt : Expr) (g : TG) (vs : List Nat) (A : AS) (P : Nat → List PyData → Prop) (Q : List PyData → Prop) : Prop :=
  WIY X c tg it A fun ds => ds.length ≤ 1000000 ∧ P 0 [] ∧ (∀ i x acc, ds[i]? = some x → P i acc → ∃ A1, TgOk X c g vs ⟨wipeA A.ρ vs, A.μ⟩ x A1 ∧ Turn X c scope ifs elt A1 acc (P (i + 1))) ∧ ∀ acc, P ds.length acc → Q acc
theorem lc_readY {scope : Scope} {elt : Expr} {ifs : List Expr} {g : TG} {P : Nat → List PyData → Prop} {Q : List PyData → Prop} {G : Hp} {ps : List Addr} {σ : L2.St} {H : Hp} (h : LcY X c scope tg it ifs elt g vs A P Q) (S : St X.K c A G ps σ H) :
    tLc (wI X tg it) g (bT X scope ifs) (bE X scope elt) vs σ H (LcW X c G H Q) :=
  wI_mono (h G ps σ H S) fun J H1 ⟨G1, ds, s1, ok, hz, p0, ht, hd⟩ L hL => by
    have S1 := S.step s1
    have Sw := S1.wipe vs
    refine ⟨fun i m H' => m = ds.length - i ∧ i ≤ ds.length ∧ LcJ X.K c.pa G1 H1 G1 L (P i) i H', ⟨_, rfl, Nat.zero_le _, G1, [], [], S1.refl.lay hL, Ex.refl _, upd_same, Evl.fresh_back S1.st.sub hL, .nil, Nat.zero_le _, p0⟩, ?_⟩
    rintro i m H' ⟨rfl, hi, q⟩
    have exH : Ex G1 H' := by
      obtain ⟨G', _, _, s, _⟩ := q
      exact s.ex.trans s.sub
    by_cases hlt : i < ds.length
    · refine .inr ⟨ok.go i H' exH hlt, LcJ X.K c.pa G1 H1 G1 L (P (i + 1)) (i + 1), fun H2 q2 => ⟨ds.length - (i + 1), by omega, rfl, hlt, q2⟩, fun x H2 y => ?_⟩
      obtain ⟨G', xs, acc, s, eb, hx, hg, ha, hl, hp⟩ := q
      obtain ⟨G2, d, s2, hdx, rd⟩ := ok.yld _ _ G' i H' x H2 eb s hlt y
      obtain ⟨A1, tk, tn⟩ := ht i d acc hdx hp
      have nL : c.pa ≠ some L := fun z => (s.pool L z).1 hL
      have s3 := s.trans s2
      refine tk G2 ps _ H2 x (Sw.step s3) rd _ s3.sub _ fun σ2 hw S2 => ⟨?_, ?_⟩
      · rw [hw, wipe_idem]
      · exact turn_gen hL (by omega) s3 (eb.trans s2.ex) (s2.keep L _ nL hx) (s2.fr L (by rw [hx]; exact fun z => nomatch z) hg) (dp_upAll s2.ex _ ha) hl (S2 G2 _ s3.refl) tn
    · have e : i = ds.length := by omega
      subst e
      exact .inl ⟨ok.stop _ H' exH (Nat.le_refl _), lcj_end s1 hL q hd⟩
variable {scope : Scope} {elt : Expr} {ifs : List Expr} {own : List (Str × Nat)} {g : TG} {P : Nat → List PyData → Prop} {Ql : List PyData → Prop}
theorem wl_lcY (ok : BlkOk X.N X.env.scope scope own) (hg : ∀ (s : Shared) (H : Hp) (C : Addr) (cl : List (Str × Addr)) (fp : List Addr), PG (X.blk s H scope (compEnvC scope cl C X.env) fp) tg g) (h : LcY X c scope tg it ifs elt g (own.map (·.2)) A P Ql) (nd : X.N.Nodup)
    (hc : X.calm = true := by rfl) (hs : ∀ x, foldedSetIterable it X.env x = pure x := by intro _; rfl) : WL X c (.ListComp elt [⟨tg, it, ifs, 0⟩] scope pos) A Ql := fun G ps σ H S =>
  wE_of (pe_lc hc nd pi_w ok hg (fun _ _ _ _ _ => bT_ok) (fun _ _ _ _ _ => bE_ok) hs) (lc_readY h S)
theorem ws_lcY {i : Nat} {y : Str} {py spos : Pos} (ok : BlkOk X.N X.env.scope scope own) (hg : ∀ (s : Shared) (H : Hp) (C : Addr) (cl : List (Str × Addr)) (fp : List Addr), PG (X.blk s H scope (compEnvC scope cl C X.env) fp) tg g) (h : LcY X c scope tg it ifs elt g (own.map (·.2)) A P fun ds => D.nx ⟨A.ρ.set i (.own A.μ.length), A.μ ++ [some ds]⟩) (nd : X.N.Nodup)
    (hy : X.N[i]? = some y := by rfl) (hyl : X.env.scope.names.lookup y = some .local := by rfl) (hsw : swapsWith (.ListComp elt [⟨tg, it, ifs, 0⟩] scope pos) (some (.Name y py)) spos.line X.env = pure true := by exact sw_true rfl rfl rfl (by decide +kernel)) (hc : X.calm = true := by rfl) (hs : ∀ x, foldedSetIterable it X.env x = pure x := by intro _; rfl) :
    WS X c (.Assign [.Name y py] (.ListComp elt [⟨tg, it, ifs, 0⟩] scope pos) spos) A D := fun G ps σ H S =>
  wS_of (ps_setLc hc nd hy hyl hsw pi_w ok hg (fun _ _ _ _ _ => bT_ok) (fun _ _ _ _ _ => bE_ok) hs) (tLc_mono (fun σ H R R' h k => wI_mono h k) (lc_readY h S) fun v H' q => setLc_end S q)
/-! ### slices of tuples -/
theorem we_slT {lo hi : Option Expr} {Q : PyData → Prop} (h : WE X c a A fun d => WO X c lo A fun l => WO X c hi A fun u => ∃ ds, d = .tuple ds ∧ ¬(HT.sIx ds.length 0 l = 0 ∧ HT.sIx ds.length ds.length u = ds.length) ∧ Q (.tuple (cutP ds l u))) : WE X c (.Subscript a (.Slice lo hi none p2) pos) A Q := fun G ps σ H S => by
  have po : ∀ e : Option Expr, ∃ t, PO X e t ∧ ∀ σ H Q, wO X e σ H Q → t σ H Q := fun e => by
    cases e with
    | none => exact ⟨_, po_none, fun _ _ _ h => h⟩
    | some x => exact ⟨_, po_some pe_w, fun _ _ _ h => h⟩
  obtain ⟨tl, hl, kl⟩ := po lo
  obtain ⟨th, hh, kh⟩ := po hi
  have go : ∀ (e : Option Expr) (P : Option Int → Prop) G σ H (S : St X.K c A G ps σ H), WO X c e A P → wO X e σ H fun o H' => ∃ G', Stp X.K c.pa G H G' H' ∧ P o := fun e P G σ H S w => by
    cases e with
    | none => exact ⟨G, S.refl, w⟩
    | some x => exact wE_mono (w G ps σ H S) fun v H' ⟨G', d, s, r, i, e1, q⟩ => by subst e1; exact ⟨i, dp_int r, G', s, q⟩
  have wOm : ∀ (e : Option Expr) σ H (Q Q' : Option Int → Hp → Prop), wO X e σ H Q → (∀ o H', Q o H' → Q' o H') → wO X e σ H Q' := fun e σ H Q Q' w k => by
    cases e with
    | none => exact k _ _ w
    | some x => exact wE_mono w fun v H' ⟨i, e1, q⟩ => ⟨i, e1, k _ _ q⟩
  refine wE_of (pe_slice sl_tup pe_w hl hh) (wE_mono (h G ps σ H S) fun v H1 ⟨G1, d, s1, r1, q1⟩ => ?_)
  have S1 := S.step s1
  refine kl _ _ _ (wOm _ _ _ _ _ (go lo _ G1 σ H1 S1 q1) fun l H2 ⟨G2, s2, q2⟩ => ?_)
  have S2 := S1.step s2
  refine kh _ _ _ (wOm _ _ _ _ _ (go hi _ G2 σ H2 S2 q2) fun u H3 ⟨G3, s3, ds, e1, hn, q⟩ => ?_)
  subst e1
  obtain ⟨p, xs, rfl, hs, ha⟩ := dp_tup r1
  have s23 := s2.trans s3
  have s13 := s1.trans s23
  refine ⟨p, xs, rfl, Evl.ex_t (fun b o z => s23.sub b o (s23.ex b o z)) hs, by rw [dall_len ha]; exact hn, fun q hq => ?_⟩
  have n := s13.new (o := .tup (cutV xs l u)) hq
  exact ⟨_, _, s13.trans n, .tup (.inl (.inl upd_same)) (dall_cut (dp_upAll (s23.ex.trans n.ex) _ ha)), ‹Q _›⟩
/-! ### a constant dict with texts for keys -/
structure Kd (K : PySem.W.Frag) (w : World) (mg : Str → Option Value) (x : Str) (get : Str → Option PyData) : Prop where
  ex : ∃ d, mg x = some (.ref d) ∧ ∀ z dz, get z = some dz → ∃ v, KDct K w d z v ∧ ∀ G, Dp K G v dz
theorem we_kd {K : PySem.W.Frag} {w : World} {mg : Str → Option Value} {x : Str} {get : Str → Option PyData} (g : Kd K w mg x get) (he : X.K = K ∧ X.mg = mg ∧ X.w = w) (hg : Gl X x) (hd : (x == ("__debug__" : Str)) = false) (h : WE X c b A fun d2 => ∃ z d, d2 = .str z ∧ get z = some d ∧ Q d) (hp : PlainIx b := by intro _ _; rfl) : WE X c (.Subscript (.Name x p) b pos) A Q := fun G ps σ H S => by
  obtain ⟨rfl, rfl, rfl⟩ := he
  obtain ⟨d, h1, h2⟩ := g.ex
  refine wE_of (pe_ix ix_kdict (pe_glob hg h1 (v := .ref d) rfl hd) pe_w hp) (wE_mono (h G ps σ H S) fun v2 H2 ⟨G2, d2, s2, r2, z, dz, e2, eg, q⟩ => ?_)
  subst e2
  obtain ⟨v, k, hv⟩ := h2 z dz eg
  exact ⟨d, z, v, rfl, dp_str r2, k, G2, dz, s2, hv G2, q⟩
end
end Eng

set_option Elab.async false
set_option linter.all false
set_option maxRecDepth 100000
set_option maxHeartbeats 2000000
namespace Eng
open PySem PySem.Spec PyProof.Rows L2
open Evl (Ex)
section
variable {X : Cx} {c : Ct} {A A0 A1 A2 : AS} {e a b n tg it : Expr} {es : List Expr} {pos p p2 : Pos} {Q : PyData → Prop} {st : Stmt} {sts rest body : List Stmt} {D : ADs} {N : List Str} {vs : List Nat}
/-! ### x in (..), any number of ints -/
theorem in_ints (i : Int) (ns : List Int) : inV (V.int i) (ns.map V.int) = decide (i ∈ ns) := by
  induction ns with
  | nil => exact (decide_eq_false (by simp)).symm
  | cons n ns ih =>
    have e : inV (V.int i) ((n :: ns).map V.int) = ((n == i) || inV (V.int i) (ns.map V.int)) := rfl
    rw [e, ih, Bool.beq_eq_decide_eq]
    by_cases h : i = n
    · subst h; simp
    · have h2 : ¬ n = i := fun z => h z.symm
      simp [h, h2]
theorem flat_ints (ns : List Int) : (ns.map V.int).all flatV = true := by
  induction ns with
  | nil => rfl
  | cons n ns ih => rw [List.map_cons, List.all_cons, ih]; rfl
theorem od_ninT {i : Int} {ns : List Int} (q : Q (.bool (!decide (i ∈ ns)))) : OpD X c (compareOp .NotIn) (.int i) (.tuple (ns.map .int)) Q :=
  ⟨_, op_notIn_seq, fun _ _ G H v1 v2 s h1 h2 => by
    obtain ⟨p, xs, rfl, hs, ha⟩ := dp_tup h2
    have ex := dall_ints_inv ha
    subst ex
    rw [dp_int h1]
    refine ⟨p, _, rfl, .inr (Evl.ex_t s.sub hs), rfl, flat_ints ns, G, _, s.refl, .bl _, ?_⟩
    rw [if_pos rfl, in_ints]
    exact q⟩
theorem od_inT {i : Int} {ns : List Int} (q : Q (.bool (decide (i ∈ ns)))) : OpD X c (compareOp .In) (.int i) (.tuple (ns.map .int)) Q :=
  ⟨_, op_in_seq, fun _ _ G H v1 v2 s h1 h2 => by
    obtain ⟨p, xs, rfl, hs, ha⟩ := dp_tup h2
    have ex := dall_ints_inv ha
    subst ex
    rw [dp_int h1]
    refine ⟨p, _, rfl, .inr (Evl.ex_t s.sub hs), rfl, flat_ints ns, G, _, s.refl, .bl _, ?_⟩
    rw [if_neg Bool.false_ne_true, in_ints]
    exact q⟩
/-! ### list * int, the list new -/
theorem dall_rep {K : PySem.W.Frag} {G : Hp} {xs : List V} {ds : List PyData} (h : DpAll K G xs ds) : ∀ m : Nat, DpAll K G (List.replicate m xs).flatten (List.replicate m ds).flatten
  | 0 => .nil
  | m + 1 => by
    rw [List.replicate_succ, List.replicate_succ, List.flatten_cons, List.flatten_cons]
    exact dall_app h (dall_rep h m)
theorem wl_rep {Q : List PyData → Prop} (h : WL X c e A fun ds => WE X c n A fun d => ∃ m : Nat, d = .int (m : Int) ∧ m ≤ 100000 ∧ ds.length * m ≤ 100000 ∧ Q (List.replicate m ds).flatten) : WL X c (.BinOp e .Mult n pos) A Q := fun G ps σ H S pins s I =>
  wpAny_BinOp (binT (R := fun v1 v2 H' => ∃ G' b xs ds, ∃ m : Nat, Stp X.K c.pa G H G' H' ∧ v1 = .ref b ∧ v2 = .int (m : Int) ∧ H' b = some (.lst xs) ∧ DpAll X.K G' xs ds ∧ m ≤ 100000 ∧ ds.length * m ≤ 100000 ∧ Q (List.replicate m ds).flatten) pe_w pe_w I
    (wE_mono (h G ps σ H S) fun v1 H1 ⟨G1, ds, s1, ⟨b, xs, ev, hb0, hbg, hb, hx⟩, q1⟩ => wE_mono (q1 G1 ps σ H1 (S.step s1)) fun v2 H2 ⟨G2, d2, s2, r2, m, e2, hm, hz, q⟩ => by
      subst e2
      have nL : c.pa ≠ some b := fun z => (s1.pool b z).1 hb0
      exact ⟨G2, b, xs, ds, m, s1.trans s2, ev, dp_int r2, s2.keep b _ nL hb, dp_upAll s2.ex _ hx, hm, hz, q⟩)
    fun v u s2 x y H2 I2 rx ry ⟨G2, b, xs, ds, m, st, z1, z2, hb, hx, hm, hz, q⟩ => by
      subst z1
      subst z2
      refine op_rep pins s2 σ H2 _ _ v u _ I2 rx ry ⟨b, _, xs, rfl, rfl, hb, by omega, by omega, Evl.sz_of (by rw [dall_len hx, Int.toNat_natCast]; exact hz), fun P hP => ?_⟩
      rw [Int.toNat_natCast]
      refine ⟨G2, _, st.trans (st.lay hP), ⟨P, _, rfl, ?_, Evl.fresh_back st.sub hP, upd_same, dall_rep hx m⟩, q⟩
      cases q2 : H P with
      | none => rfl
      | some o => exact absurd hP (st.live P (by rw [q2]; exact fun z => nomatch z)))
/-! ### a body told by itself -/
theorem wb_gen {P : AS → Prop} (h : ∀ D' : ADs, (∀ A', P A' → D'.nx A') → WB X c sts A D') (hp : ∀ A', P A' → D.nx A') : WB X c sts A D := h D hp
theorem wb_genR {P : AS → Prop} {R : RV → AS → Prop} (h : ∀ D' : ADs, (∀ A', P A' → D'.nx A') → (∀ r A', R r A' → D'.rt r A') → WB X c sts A D') (hp : ∀ A', P A' → D.nx A') (hr : ∀ r A', R r A' → D.rt r A') : WB X c sts A D := h D hp hr
theorem dp_ktup {K : PySem.W.Frag} {a : Addr} {od : Option Addr} {its : Array Value} {n : Nat} {sl : Array (Option Value)} {xs : List V} {ds : List PyData} (l : K.lookup a = some ⟨.type "tuple", od, .seq its n, sl⟩) (hz : its.size ≤ 1000) (hv : Vals xs its.toList) (hd : ∀ G, DpAll K G xs ds) : ∀ G, Dp K G (.ref a) (.tuple ds) := fun G =>
  .tup (.inr ⟨_, its, n, l, rfl, rfl, Evl.sz_of (by omega), hv⟩) (hd G)
theorem kd_of {K : PySem.W.Frag} {w : World} {mg : Str → Option Value} {x : Str} {a : Addr} {es : Array DictEntry} {n : Nat} {get : Str → Option PyData} (h : mg x = some (.ref a)) (l : K.lookup a = some ⟨.type "dict", none, .dict es n, #[]⟩) (k : PySem.W.KeysLit w.params es.toList) (hg : ∀ z dz, get z = some dz → ∃ u v, PySem.W.nsIn K a z = some (some u) ∧ RelV v u ∧ ∀ G, Dp K G v dz) : Kd K w mg x get :=
  ⟨a, h, fun z dz e => let ⟨u, v, h1, h2, h3⟩ := hg z dz e; ⟨v, ⟨es, n, u, l, k, h1, h2⟩, h3⟩⟩
end
end Eng

set_option Elab.async false
set_option linter.all false
set_option maxRecDepth 100000
set_option maxHeartbeats 2000000
namespace Eng
open PySem PySem.Spec PyProof.Rows L2
open Evl (Ex)
/-! ### displayed dicts with tuples for keys, asked at once by get -/
theorem disp_tup {prog : Program} {w : World} {A : Around} {E : Value → Shared → Prop} {s : Shared} {env : Env} {κ : Type} [DecidableEq κ] {kn : HeapKind prog w κ} {keys : List (Option Expr)} {values : List Expr} {pos : Pos} {Q : Value → Shared → Prop}
    (hu : kn.room A) (hall : keys.all (fun x => x.isSome) = true) (hl : keys.length = values.length) (h0 : keys ≠ []) (h15 : keys.length ≤ 15)
    (h : wpAny (model prog w) A (evalPairs (pairTrees keys values env pos)) (fun us s1 => ∃ rs, CarriesH kn s1.heap us rs ∧ s1.heap.DictOfH kn s.heap.objs.size [] ∧
      (∀ h' t', h'.DictOfH kn s.heap.objs.size (storedAllH [] rs) → Heap.SameBut s.heap.objs.size s1.heap h' → Q (.ref s.heap.objs.size) { s1 with heap := h', toks := t' })) E
      { s with heap := s.heap.push { cls := .type "dict", data := .dict #[] } }) : wpAny (model prog w) A (eval (.Dict keys values pos) env) Q E s := by
  have hn := pairTrees_length keys values env pos hall hl
  have hne : pairTrees keys values env pos ≠ [] := fun e => by
    rw [e] at hn
    exact h0 (List.length_eq_zero_iff.mp hn.symm)
  rw [arm_eval_Dict, zip_pairTrees keys values env pos hall hl, dictDisplay_pairs _ hne (by rw [hn]; omega)]
  refine wpAny_bind (wpAny_standAt (wpAny_bind ?_))
  refine wpAny_subDictH (knd := kn) (Q := fun d s' => wpAny (model prog w) A (pure (Value.ref d)) Q E s') hu (by rw [hn]; exact h15) ?_
  refine wpAny_mono h (fun us s1 z => ?_) fun _ _ e => e
  obtain ⟨rs, c1, c2, c3⟩ := z
  exact ⟨rs, c1, c2, fun h' t' a b => wpAny_pure (c3 h' t' a b)⟩
abbrev KB := List Key × Addr × V
def mergeT (acc : List (List Key × V)) (kbs : List KB) : List (List Key × V) := kbs.foldl (fun acc x => putK acc x.1 x.2.2) acc
theorem mergeT_len : ∀ (kbs : List KB) (acc : List (List Key × V)), (mergeT acc kbs).length ≤ acc.length + kbs.length
  | [], acc => Nat.le_refl _
  | x :: r, acc => by
    have h1 := mergeT_len r (putK acc x.1 x.2.2)
    have h2 := length_putK acc x.1 x.2.2
    show (mergeT (putK acc x.1 x.2.2) r).length ≤ _
    rw [List.length_cons]
    omega
abbrev KbOk : List KB → List (List Key × Addr × Value) → Prop := Paired fun p q => p.1 = q.1 ∧ p.2.1 = q.2.1 ∧ RelV p.2.2 q.2.2
theorem kb_carries {P : Program} {w : World} {H : Hp} {h : Heap} (ok : HOk P w H h) : ∀ {kbs : List KB} {ws : List (Value × Value)}, VV (kbs.map fun x => (V.ref x.2.1, x.2.2)) ws → (∀ x ∈ kbs, H x.2.1 = some (.tup (x.1.map kV))) →
    ∃ rs, CarriesH (tupleKind (mixKind P w)) h ws rs ∧ KbOk kbs rs
  | [], _, r, _ => by
    rw [List.map_nil] at r
    cases r
    exact ⟨[], True.intro, .nil⟩
  | x :: kbs, _, r, hk => by
    rw [List.map_cons] at r
    cases r with
    | @cons a b as bs h1 t =>
      obtain ⟨rs, c, q⟩ := kb_carries ok t fun y hy => hk y (List.mem_cons_of_mem _ hy)
      obtain ⟨b1, b2⟩ := b
      have e1 : b1 = Value.ref x.2.1 := h1.1
      exact ⟨(x.1, x.2.1, b2) :: rs, ⟨e1, rfl, key_of ok (hk x (List.mem_cons_self ..)), c⟩, .cons ⟨rfl, rfl, h1.2⟩ q⟩
theorem kt_merge {H : Hp} : ∀ {kbs : List KB} {rs : List (List Key × Addr × Value)} (acc : List (List Key × V)) (xs : List (List Key × Addr × Value)), KbOk kbs rs → (∀ x ∈ kbs, H x.2.1 = some (.tup (x.1.map kV))) → KT H acc xs → KT H (mergeT acc kbs) (storedAllH xs rs)
  | [], _, acc, xs, r, _, k => by cases r; exact k
  | x :: kbs, _, acc, xs, r, hk, k => by
    cases r with
    | @cons a b as bs h1 t =>
      obtain ⟨b1, b2, b3⟩ := b
      obtain ⟨e1, e2, e3⟩ := h1
      have e1 : x.1 = b1 := e1
      have e2 : x.2.1 = b2 := e2
      have e3 : RelV x.2.2 b3 := e3
      subst e1 e2
      exact kt_merge (putK acc x.1 x.2.2) (storedH xs x.1 x.2.1 b3) t (fun y hy => hk y (List.mem_cons_of_mem _ hy)) (KT.put k x.1 (hk x (List.mem_cons_self ..)) e3)
def tDispT (trs : List (TE × TE)) : TE := fun σ H Q => ∀ d, H d = none → tPairs trs σ (upd H d (.dT [])) fun prs H2 => H2 d = some (.dT []) ∧ ∃ kbs : List KB, prs = kbs.map (fun x => (V.ref x.2.1, x.2.2)) ∧ (∀ x ∈ kbs, H2 x.2.1 = some (.tup (x.1.map kV))) ∧ kbs.length ≤ 15 ∧ Q (.ref d) (upd H2 d (.dT (mergeT [] kbs)))
theorem pe_dispT {X : Cx} {pos : Pos} {keys : List (Option Expr)} {values : List Expr} {trs : List (TE × TE)} (hu : X.A.units + 1 < cLine) (h : PPs X pos keys values trs) (hall : keys.all (fun x => x.isSome) = true) (hl : keys.length = values.length) (h0 : keys ≠ [])
    (h15 : keys.length ≤ 15) : PE X (.Dict keys values pos) (tDispT trs) := by
  refine ⟨fun pins s σ H Q I q => ?_⟩
  have hn := I.hok.fresh (Nat.le_refl s.heap.objs.size)
  have I1 : Inv X pins σ (upd H s.heap.objs.size (.dT [])) { s with heap := s.heap.push { cls := .type "dict", data := .dict #[] } } :=
    I.laid (t' := s.toks) (fun _ _ z => Heap.get?_push_of_some _ z) (Nat.le_refl _) (dt_empty s.heap I.big)
  have hroom : (tupleKind (mixKind X.prog X.w)).room X.A := Nat.lt_of_succ_lt hu
  refine disp_tup (kn := tupleKind (mixKind X.prog X.w)) hroom hall hl h0 h15 ?_
  refine thn (h.run pins _ σ _ _ I1 (q _ hn)) fun us s2 z => ?_
  obtain ⟨prs, H2, I2, rel, e, kbs, ep, hk, lk, q2⟩ := z
  subst ep
  obtain ⟨rs, c, kb⟩ := kb_carries I2.hok rel hk
  obtain ⟨z1, z2, xs0, r0, dd⟩ := dt_of I2.hok e
  cases r0
  refine ⟨rs, c, dd, fun h' t' dd' hs => ⟨.ref s.heap.objs.size, _, ?_, rfl, q2⟩⟩
  have hz : (mergeT [] kbs).length ≤ sizeLine := by
    have h1 := mergeT_len kbs []
    rw [List.length_nil] at h1
    rw [sizeLine_eq]
    omega
  obtain ⟨o, es, en, d1, d2, d3, d4, _, d5⟩ := dd'
  refine d_write I2 (by rw [e]; exact True.intro) hs ⟨o, d1⟩ ⟨hz, z2, _, (kt_merge [] [] kb hk .nil).keeps fun b ys eb => ?_, o, es, en, d1, d2, d3, d4, d5⟩
  rw [upd_ne (ne_of eb e fun z => nomatch z)]
  exact eb
def WK (X : Cx) (c : Ct) (e : Expr) (A : AS) (Q : List Key → Prop) : Prop := ∀ G ps σ H, St X.K c A G ps σ H → wE X e σ H fun v H' => ∃ G' b ks, Stp X.K c.pa G H G' H' ∧ v = .ref b ∧ G' b = some (.tup (ks.map kV)) ∧ Q ks
theorem kvs_of {K : PySem.W.Frag} {G : Hp} : ∀ {vs : List V} {ks : List Key}, DpAll K G vs (ks.map keyD) → vs = ks.map kV
  | [], [], _ => rfl
  | [], _ :: _, h => by cases h
  | _ :: _, [], h => by cases h
  | v :: vs, k :: ks, h => by
    cases h with
    | cons h1 h2 => rw [kv_of h1, kvs_of h2]; rfl
def WPrT (X : Cx) (c : Ct) : List (Option Expr) → List Expr → AS → (List (List Key × PyData) → Prop) → Prop
  | some k :: ks, v :: vs, A, Q => WK X c k A fun ky => WE X c v A fun dv => WPrT X c ks vs A fun kds => Q ((ky, dv) :: kds)
  | [], [], _, Q => Q []
  | _, _, _, _ => False
inductive KbData (K : PySem.W.Frag) (G : Hp) : List KB → List (List Key × PyData) → Prop
  | nil : KbData K G [] []
  | cons {k : List Key} {b : Addr} {v : V} {d : PyData} {kbs : List KB} {kds : List (List Key × PyData)} : G b = some (.tup (k.map kV)) → Dp K G v d → KbData K G kbs kds → KbData K G ((k, b, v) :: kbs) ((k, d) :: kds)
theorem KbData.up {K : PySem.W.Frag} {G G' : Hp} (e : Ex G G') : ∀ {kbs : List KB} {kds : List (List Key × PyData)}, KbData K G kbs kds → KbData K G' kbs kds
  | _, _, .nil => .nil
  | _, _, .cons h r t => .cons (e _ _ h) (dp_up e _ r) (t.up e)
theorem KbData.len {K : PySem.W.Frag} {G : Hp} : ∀ {kbs : List KB} {kds : List (List Key × PyData)}, KbData K G kbs kds → kbs.length = kds.length
  | _, _, .nil => rfl
  | _, _, .cons _ _ t => congrArg (· + 1) t.len
theorem KbData.tups {K : PySem.W.Frag} {G : Hp} : ∀ {kbs : List KB} {kds : List (List Key × PyData)}, KbData K G kbs kds → ∀ x ∈ kbs, G x.2.1 = some (.tup (x.1.map kV))
  | _, _, .nil, _, hx => by cases hx
  | _, _, .cons h _ t, x, hx => by
    rcases List.mem_cons.mp hx with rfl | hx
    · exact h
    · exact t.tups x hx
def getT (k : List Key) (o : PyData) : List (List Key × PyData) → PyData
  | [] => o
  | kd :: r => getT k (if k = kd.1 then kd.2 else o) r
theorem merge_getT {K : PySem.W.Frag} {G : Hp} (k : List Key) {z : V} : ∀ {kbs : List KB} {kds : List (List Key × PyData)} (acc : List (List Key × V)) (o : PyData), KbData K G kbs kds → Dp K G ((valV acc k).getD z) o → Dp K G ((valV (mergeT acc kbs) k).getD z) (getT k o kds)
  | _, _, acc, o, .nil, h => h
  | (k1, b1, v1) :: kbs, (_, d1) :: kds, acc, o, .cons _ r t, h => by
    show Dp K G ((valV (mergeT (putK acc k1 v1) kbs) k).getD z) (getT k (if k = k1 then d1 else o) kds)
    refine merge_getT k (putK acc k1 v1) _ t ?_
    rw [valV_put]
    by_cases hk : k = k1
    · rw [if_pos hk, if_pos hk]; exact r
    · rw [if_neg hk, if_neg hk]; exact h
section
variable {X : Cx} {c : Ct} {A : AS} {e f a b i : Expr} {es : List Expr} {pos p p2 apos cpos : Pos} {Q : PyData → Prop} {st : Stmt} {sts rest body : List Stmt} {D : ADs} {N : List Str}
theorem wk_tup {x1} {Q : List Key → Prop} (h : WA X c es A fun as => ∃ ks : List Key, dats as = some (ks.map keyD) ∧ ks.length ≤ 15 ∧ Q ks) : WK X c (.Tuple es x1 pos) A Q := fun G ps σ H S =>
  wE_of (pe_tup pa_w) (wA_mono (h G ps σ H S) fun vs H1 ⟨G1, as, s1, r1, ks, e, hz, q⟩ => ⟨by rw [dall_len (dats_ok r1 e), List.length_map]; exact Evl.sz_of (by omega), fun p hp =>
    have n := s1.new (o := .tup vs) hp
    ⟨_, p, ks, s1.trans n, rfl, by rw [upd_same, kvs_of (dats_ok r1 e)], q⟩⟩)
theorem tprT_ok : ∀ (ks : List (Option Expr)) (vs : List Expr) (Q : List (List Key × PyData) → Prop) (G : Hp) (ps : List Addr) (σ : L2.St) (H : Hp), St X.K c A G ps σ H → WPrT X c ks vs A Q → ∀ k : List (V × V) → Hp → Prop,
    (∀ G' H' kbs kds, Stp X.K c.pa G H G' H' → KbData X.K G' kbs kds → Q kds → k (kbs.map fun x => (V.ref x.2.1, x.2.2)) H') → tPairs (trsOf X ks vs) σ H k
  | [], [], Q, G, ps, σ, H, S, h, k, hk => hk G H [] [] S.refl .nil h
  | some e :: ks, v :: vs, Q, G, ps, σ, H, S, h, k, hk => by
    refine wE_mono (h G ps σ H S) fun x H1 ⟨G1, b1, ky, s1, e1, t1, q1⟩ => ?_
    subst e1
    refine wE_mono (q1 G1 ps σ H1 (S.step s1)) fun y H2 ⟨G2, d2, s2, r2, q2⟩ => ?_
    refine tprT_ok ks vs _ G2 ps σ H2 ((S.step s1).step s2) q2 _ fun G' H' kbs kds s3 ok q => ?_
    exact hk G' H' ((ky, b1, y) :: kbs) _ ((s1.trans s2).trans s3) (.cons (s3.ex _ _ (s2.ex _ _ t1)) (dp_up s3.ex _ r2) ok) q
  | none :: _, _, _, _, _, _, _, _, h, _, _ => by cases h
  | [], _ :: _, _, _, _, _, _, _, h, _, _ => by cases h
  | some _ :: _, [], _, _, _, _, _, _, h, _, _ => by cases h
/-- {..}.get(e, f) -/
theorem we_tget {ks : List (Option Expr)} {vs : List Expr} (hu : X.A.units + 1 < cLine) (h : WPrT X c ks vs A fun kds => kds.length ≤ 15 ∧ WK X c e A fun k => WE X c f A fun d0 => Q (getT k d0 kds))
    (hall : ks.all (fun x => x.isSome) = true) (hl : ks.length = vs.length) (h0 : ks ≠ []) (h15 : ks.length ≤ 15) (m : M2 X (.Dict ks vs p2) "get" apos e f cpos) : WE X c (.Call (.Attribute (.Dict ks vs p2) "get" apos) [e, f] [] cpos) A Q := fun G ps σ H S =>
  wE_of (pe_dget2 hu (pe_dispT hu (pps_of ks vs hall hl) hall hl h0 h15) pe_w pe_w m) fun P hP => by
    have s0 := S.refl.lay (o := .dT []) hP
    have nL : c.pa ≠ some P := fun z => (S.refl.pool P z).1 hP
    have gP : G P = none := Evl.fresh_back S.st.sub hP
    refine tprT_ok ks vs _ G ps σ _ (S.step s0) h _ fun G1 H1 kbs kds s1 ok ⟨hk, q⟩ => ?_
    have hP1 : H1 P = some (.dT []) := s1.keep P _ nL upd_same
    have gP1 : G1 P = none := s1.fr P (by rw [upd_same]; exact fun z => nomatch z) gP
    refine ⟨hP1, kbs, rfl, fun x hx => s1.sub _ _ (ok.tups x hx), by rw [ok.len]; exact hk, ?_⟩
    have s2 := (s0.trans s1).mut (o := .dT (mergeT [] kbs)) hP gP1
    refine ⟨P, rfl, .inr ⟨_, .inl upd_same⟩, ?_⟩
    refine wE_mono (q G1 ps σ _ (S.step s2)) fun y H3 ⟨G3, b, k, s3, ey, tb, q3⟩ => ?_
    subst ey
    refine wE_mono (q3 G3 ps σ _ (S.step (s2.trans s3))) fun z H4 ⟨G4, d0, s4, r4, qq⟩ => ?_
    have hb : H4 b = some (.tup (k.map kV)) := s4.sub _ _ (s4.ex _ _ tb)
    have hd : H4 P = some (.dT (mergeT [] kbs)) := s4.keep P _ nL (s3.keep P _ nL upd_same)
    exact ⟨_, DGet.t hd hb, G4, _, (s2.trans s3).trans s4, merge_getT k [] d0 (ok.up fun a o z => s4.ex a o (s3.ex a o z)) r4, qq⟩
end
end Eng

set_option Elab.async false
set_option linter.all false
set_option maxRecDepth 100000
set_option maxHeartbeats 2000000
namespace Eng
open PySem PySem.Spec PyProof.Rows L2
open Evl (Ex)
section
variable {X : Cx} {c : Ct} {A A0 A1 A2 : AS} {e a b n tg it : Expr} {es : List Expr} {pos p p2 : Pos} {Q : PyData → Prop} {st : Stmt} {sts rest body : List Stmt} {D : ADs} {N : List Str} {vs : List Nat}
/-! ### walks, all kinds as walks whose items may be new -/
theorem ity_of {K : PySem.W.Frag} {pa : Option Addr} {J : It} {G : Hp} {ds : List PyData} (h : ItOk K J G ds) : ItY K pa J G ds where
  go := h.go
  stop := h.stop
  yld := fun G0 H0 G1 i H x H' e s l y => by
    obtain ⟨e1, d, hd, r⟩ := h.yld i H x H' (fun b o z => s.sub b o (e b o z)) l y
    subst e1
    exact ⟨G1, d, s.refl, hd, dp_up e d r⟩
theorem wiy_of {Q : List PyData → Prop} (h : WI X c tg it A Q) : WIY X c tg it A Q := fun G ps σ H S =>
  wI_mono (h G ps σ H S) fun J H' ⟨G', ds, s, ok, q⟩ => ⟨G', ds, s, ity_of ok, q⟩
/-- the numbers from lo on -/
def rngF (lo n : Nat) : List PyData := (List.range n).map fun (k : Nat) => PyData.int ((lo + k : Nat) : Int)
theorem rngF_get {lo n i : Nat} (h : i < n) : (rngF lo n)[i]? = some (.int ((lo + i : Nat) : Int)) := by
  unfold rngF
  rw [List.getElem?_map, List.getElem?_range h]; rfl
theorem rngF_len (lo n : Nat) : (rngF lo n).length = n := by unfold rngF; rw [List.length_map, List.length_range]
theorem rngF_inv {lo n i : Nat} {x : PyData} (h : (rngF lo n)[i]? = some x) : i < n ∧ x = .int ((lo + i : Nat) : Int) := by
  have hi : i < n := by
    have := (List.getElem?_eq_some_iff.mp h).1
    rw [rngF_len] at this
    exact this
  rw [rngF_get hi] at h
  exact ⟨hi, (Option.some.inj h).symm⟩
theorem itok_rngF {K : PySem.W.Frag} {G : Hp} (lo n : Nat) : ItOk K (Itr lo n) G (rngF lo n) where
  go := fun i H e l => by rw [rngF_len] at l; exact l
  stop := fun i H e l => by rw [rngF_len] at l; exact l
  yld := fun i H x H' e l y => ⟨y.1, .int ((lo + i : Nat) : Int), rngF_get (by rw [rngF_len] at l; exact l), by
    have e2 : x = .int ((lo : Int) + (i : Int)) := y.2
    rw [e2, ← Int.natCast_add]
    exact .int _⟩
theorem wi_rng2 {Q : List PyData → Prop} (hm : X.mg "range" = none) (h : WE X c a A fun d1 => ∃ lo : Nat, d1 = .int (lo : Int) ∧ lo ≤ 1000000 ∧ WE X c b A fun d2 => ∃ hi : Nat, d2 = .int (hi : Int) ∧ hi ≤ 1000000000000 ∧ Q (rngF lo (hi - lo))) (hg : Gl X "range" := by rfl)
    (hst : starEach [a, b] X.env = (false, eval a X.env) :: starEach [b] X.env := by rfl) (hst1 : starEach [b] X.env = (false, eval b X.env) :: starEach [] X.env := by rfl)
    (hst2 : starEach [a, b] X.env = [(false, eval a X.env), (false, eval b X.env)] := by rfl) (hst3 : starEach [b] X.env = [(false, eval b X.env)] := by rfl) :
    WI X c tg (.Call (.Name "range" p) [a, b] [] p2) A Q := fun G ps σ H S =>
  wI_of (pi_range2 hg hm (pa_cons pe_w (pa_cons pe_w pa_nil hst1) hst) hst2 hst3) (wE_mono (h G ps σ H S) fun v H1 ⟨G1, d, s1, r1, lo, e1, hlo, q1⟩ => by
    subst e1
    refine wE_mono (q1 G1 ps σ H1 (S.step s1)) fun v2 H2 ⟨G2, d2, s2, r2, hi, e2, hhi, q⟩ => ?_
    subst e2
    refine ⟨(lo : Int), (hi : Int), by rw [dp_int r1, dp_int r2], ⟨by omega, by omega, by omega, by omega⟩, G2, _, s1.trans s2, ?_, q⟩
    rw [show ((hi : Int) - (lo : Int)).toNat = hi - lo by omega]
    exact itok_rngF lo (hi - lo))
/-! ### zip of two lists -/
def zipD (ds es : List PyData) : List PyData := (ds.zip es).map fun p => PyData.tuple [p.1, p.2]
theorem zipD_len (ds es : List PyData) (h : ds.length = es.length) : (zipD ds es).length = ds.length := by unfold zipD; rw [List.length_map, List.length_zip, h, Nat.min_self]
theorem zipD_get {ds es : List PyData} {i : Nat} {d e : PyData} (h : ds[i]? = some d) (h2 : es[i]? = some e) : (zipD ds es)[i]? = some (.tuple [d, e]) := by
  unfold zipD
  rw [List.getElem?_map, show (ds.zip es)[i]? = some (d, e) from List.getElem?_zip_eq_some.mpr ⟨h, h2⟩]; rfl
theorem zipD_inv {ds es : List PyData} {i : Nat} {x : PyData} (h : (zipD ds es)[i]? = some x) : ∃ d e, ds[i]? = some d ∧ es[i]? = some e ∧ x = .tuple [d, e] := by
  unfold zipD at h
  rw [List.getElem?_map] at h
  cases hz : (ds.zip es)[i]? with
  | none => rw [hz] at h; cases h
  | some q =>
    rw [hz] at h
    obtain ⟨h1, h2⟩ := List.getElem?_zip_eq_some.mp (show (ds.zip es)[i]? = some (q.1, q.2) from hz)
    exact ⟨q.1, q.2, h1, h2, (Option.some.inj h).symm⟩
theorem ity_zip {K : PySem.W.Frag} {pa : Option Addr} {G : Hp} {a b : Addr} {xs ys : List V} {ds es : List PyData} (h : SqL K G a xs) (ha : DpAll K G xs ds) (h2 : SqL K G b ys) (hb : DpAll K G ys es) (hl : ds.length = es.length) : ItY K pa (Itz K a b) G (zipD ds es) where
  go := fun i H e l => by
    rw [zipD_len _ _ hl] at l
    exact ⟨xs, ys, xs[i]'(by rw [dall_len ha]; exact l), ys[i]'(by rw [dall_len hb, ← hl]; exact l), Evl.ex_l e h, Evl.ex_l e h2, List.getElem?_eq_getElem _, List.getElem?_eq_getElem _⟩
  stop := fun i H e l => by
    rw [zipD_len _ _ hl] at l
    exact ⟨xs, ys, Evl.ex_l e h, Evl.ex_l e h2, .inl (by rw [dall_len ha]; exact l)⟩
  yld := fun G0 H0 G1 i H x H' e s l y => by
    obtain ⟨T, x0, y0, rfl, hT, rfl, hx, hy⟩ := y
    obtain ⟨d, hd, r⟩ := dall_getV ha (hx xs (Evl.ex_l s.sub (Evl.ex_l e h)))
    obtain ⟨d2, hd2, r2⟩ := dall_getV hb (hy ys (Evl.ex_l s.sub (Evl.ex_l e h2)))
    have n := s.new (o := .tup [x0, y0]) hT
    have up : Ex G (upd G1 T (.tup [x0, y0])) := fun b o z => n.ex b o (e b o z)
    exact ⟨_, _, n, zipD_get hd hd2, .tup (.inl (.inl upd_same)) (.cons (dp_up up d r) (.cons (dp_up up d2 r2) .nil))⟩
theorem wiy_zip {Q : List PyData → Prop} {elts : List Expr} {kk : Nat} {tpos : Pos} (hm : X.mg "zip" = none) (h : WE X c a A fun d1 => WE X c b A fun d2 => ∃ ds es, d1 = .list ds ∧ d2 = .list es ∧ ds.length = es.length ∧ Q (zipD ds es)) (hg : Gl X "zip" := by rfl)
    (hst : starEach [a, b] X.env = (false, eval a X.env) :: starEach [b] X.env := by rfl) (hst1 : starEach [b] X.env = (false, eval b X.env) :: starEach [] X.env := by rfl) (hpl : (backTo p2 (starEach [b] X.env)).any (·.1) = false := by rfl) :
    WIY X c (.Tuple elts kk tpos) (.Call (.Name "zip" p) [a, b] [] p2) A Q := fun G ps σ H S =>
  wI_of (pi_zip hg hm (pa_cons pe_w (pa_cons pe_w pa_nil hst1) hst) hst hpl) (wE_mono (h G ps σ H S) fun v1 H1 ⟨G1, d1, s1, r1, q1⟩ => wE_mono (q1 G1 ps σ H1 (S.step s1)) fun v2 H2 ⟨G2, d2, s2, r2, ds, es, e1, e2, hl, q⟩ => by
    subst e1; subst e2
    obtain ⟨pa, xs, rfl, hx, ha⟩ := dp_list r1
    obtain ⟨pb, ys, rfl, hy, hb⟩ := dp_list r2
    have hx2 := Evl.ex_l s2.ex hx
    exact ⟨pa, pb, xs, ys, rfl, Evl.ex_l s2.sub hx2, Evl.ex_l s2.sub hy, G2, _, s1.trans s2, ity_zip hx2 (dp_upAll s2.ex _ ha) hy hb hl, q⟩)
/-! ### two clauses, over anything -/
abbrev Lc2Y (X : Cx) (c : Ct) (scope : Scope) (tg it tg1 it1 : Expr) (ifs1 : List Expr) (elt : Expr) (g g1 : TG) (vs vs1 : List Nat) (A : AS) (P : Nat → List PyData → Prop) (Q : List PyData → Prop) : Prop :=
  WIY X c tg it A fun ds => ds.length ≤ 1000 ∧ P 0 [] ∧ (∀ i x acc, ds[i]? = some x → P i acc → ∃ A1, TgOk X c g vs ⟨wipeA A.ρ vs, A.μ⟩ x A1 ∧ ∀ (s : Shared) (H0 : Hp) (C : Addr) (cl : List (Str × Addr)) (fp : List Addr), WIY (X.blk s H0 scope (compEnvC scope cl C X.env) fp) c tg1 it1 A1 fun ds1 =>
    ds1.length ≤ 1000 ∧ ∃ R : Nat → List PyData → Prop, R 0 acc ∧ (∀ k y acc, ds1[k]? = some y → R k acc → ∃ A2, TgOk X c g1 vs1 ⟨wipeA A1.ρ vs1, A1.μ⟩ y A2 ∧ Turn X c scope ifs1 elt A2 acc (R (k + 1))) ∧ ∀ acc, R ds1.length acc → P (i + 1) acc) ∧ ∀ acc, P ds.length acc → Q acc
def cutH (H : Hp) (L : Addr) : Hp := fun b => if b = L then none else H b
theorem cut_at {H : Hp} {L : Addr} : cutH H L L = none := if_pos rfl
theorem cut_ne {H : Hp} {L b : Addr} (h : b ≠ L) : cutH H L b = H b := if_neg h
theorem cut_some {H : Hp} {L b : Addr} {o : HO} (h : cutH H L b = some o) : b ≠ L ∧ H b = some o := by
  by_cases z : b = L
  · subst z; rw [cut_at] at h; cases h
  · rw [cut_ne z] at h; exact ⟨z, h⟩
theorem Stp.fromCut {K : PySem.W.Frag} {pa : Option Addr} {G H G2 H2 : Hp} {L : Addr} (s : Stp K pa G H G2 H2) (hp : pa ≠ some L) : Stp K pa G (cutH H L) G2 H2 where
  ex := s.ex
  fr := fun b hb g => s.fr b (fun z => hb (by by_cases y : b = L; · subst y; exact cut_at
                                              · rw [cut_ne y]; exact z)) g
  keep := fun b o hb q => s.keep b o hb (cut_some q).2
  sub := s.sub
  pool := fun a ha => by
    obtain ⟨z1, z2⟩ := s.pool a ha
    have ne : a ≠ L := fun z => hp (by rw [ha, z])
    exact ⟨by rw [cut_ne ne]; exact z1, z2⟩
theorem Stp.toCut {K : PySem.W.Frag} {pa : Option Addr} {G1 H1 G H : Hp} {L : Addr} (s : Stp K pa G1 H1 G H) (h1 : H1 L = none) (hg : G L = none) : Stp K pa G1 H1 G (cutH H L) where
  ex := s.ex
  fr := s.fr
  keep := fun b o hb q => by
    have ne : b ≠ L := fun z => by rw [z, h1] at q; cases q
    rw [cut_ne ne]; exact s.keep b o hb q
  sub := fun b o q => by
    have ne : b ≠ L := fun z => by rw [z, hg] at q; cases q
    rw [cut_ne ne]; exact s.sub b o q
  pool := fun a ha => by
    obtain ⟨z1, z2, z3⟩ := s.pool a ha
    have ne : a ≠ L := fun z => z1 (by rw [z]; exact h1)
    refine ⟨z1, z2, ?_⟩
    obtain ⟨l, ns, i, cc, d, s0, h1, h2, h3⟩ := z3
    exact ⟨l, ns, i, cc, d, s0, by rw [cut_ne ne]; exact h1, h2, h3⟩
theorem lc_read2Y {scope : Scope} {elt tg1 it1 : Expr} {ifs1 : List Expr} {g g1 : TG} {vs1 : List Nat} {P : Nat → List PyData → Prop} {Q : List PyData → Prop} {G : Hp} {ps : List Addr} {σ : L2.St} {H : Hp} (h : Lc2Y X c scope tg it tg1 it1 ifs1 elt g g1 vs vs1 A P Q) (S : St X.K c A G ps σ H) :
    tLc2 (wI X tg it) g tYes (bI X scope tg1 it1) g1 (bT X scope ifs1) (bE X scope elt) vs vs1 σ H (LcW X c G H Q) :=
  wI_mono (h G ps σ H S) fun J H1 ⟨G1, ds, s1, ok, hz, p0, ht, hd⟩ L hL => by
    have S1 := S.step s1
    have Sw := S1.wipe vs
    refine ⟨fun i m H' => m = ds.length - i ∧ i ≤ ds.length ∧ LcJ X.K c.pa G1 H1 G1 L (P i) (i * 1000) H', ⟨_, rfl, Nat.zero_le _, G1, [], [], S1.refl.lay hL, Ex.refl _, upd_same, Evl.fresh_back S1.st.sub hL, .nil, Nat.zero_le _, p0⟩, ?_⟩
    rintro i m H' ⟨rfl, hi, q⟩
    have exH : Ex G1 H' := by
      obtain ⟨G', _, _, s, _⟩ := q
      exact s.ex.trans s.sub
    by_cases hlt : i < ds.length
    · refine .inr ⟨ok.go i H' exH hlt, LcJ X.K c.pa G1 H1 G1 L (P (i + 1)) ((i + 1) * 1000), fun H2 q2 => ⟨ds.length - (i + 1), by omega, rfl, hlt, q2⟩, fun x H2 y => ?_⟩
      obtain ⟨G0, xs, acc, s0, eb, hx0, hg0, ha0, hl, hp⟩ := q
      obtain ⟨G', d, sy, hdx, rd⟩ := ok.yld _ _ G0 i H' x H2 eb s0 hlt y
      have nL : c.pa ≠ some L := fun z => (s0.pool L z).1 hL
      have s := s0.trans sy
      have hx : H2 L = some (.lst xs) := sy.keep L _ nL hx0
      have hg : G' L = none := sy.fr L (by rw [hx0]; exact fun z => nomatch z) hg0
      have ha := dp_upAll sy.ex _ ha0
      have eb' : Ex G1 G' := eb.trans sy.ex
      have sc := s.toCut hL hg
      have hLc : cutH H2 L L = none := cut_at
      have sc2 : Stp X.K c.pa G' (cutH H2 L) G' H2 := s.refl.fromCut nL
      obtain ⟨A1, tk, tn⟩ := ht i d acc hdx hp
      refine tk G' ps _ (cutH H2 L) x (Sw.step sc) rd _ s.sub _ fun σ2 hw S2 => ⟨by rw [hw, wipe_idem], ?_⟩
      unfold tYes
      dsimp only
      rw [if_pos rfl]
      intro f1 f2 f3 f4 f5
      refine wI_mono (tn f1 f2 f3 f4 f5 G' ps σ2 _ (S2 G' _ sc2)) fun J1 H4 ⟨G4, ds1, s4, ok1, hz1, R, r0, rt, rd1⟩ => ?_
      have s4c := s4.fromCut (L := L) nL
      refine ⟨fun j m H' => m = ds1.length - j ∧ j ≤ ds1.length ∧ LcJ X.K c.pa G' (cutH H2 L) G4 L (R j) (i * 1000 + j) H', ⟨_, rfl, Nat.zero_le _, G4, xs, acc, s4c, Ex.refl _, s4.keep L _ nL hx, s4.fr L (by rw [hx]; exact fun z => nomatch z) hg, dp_upAll s4.ex _ ha, hl, r0⟩, ?_⟩
      rintro j m H5 ⟨rfl, hj, q5⟩
      have ex5 : Ex G4 H5 := by
        obtain ⟨Gx, _, _, s5, eb5, _⟩ := q5
        exact eb5.trans s5.sub
      by_cases hjl : j < ds1.length
      · refine .inr ⟨ok1.go j H5 ex5 hjl, LcJ X.K c.pa G' (cutH H2 L) G4 L (R (j + 1)) (i * 1000 + j + 1), fun H6 q6 => ⟨ds1.length - (j + 1), by omega, rfl, hjl, q6⟩, fun x1 H6 y1 => ?_⟩
        obtain ⟨Gx, xs5, acc5, s5, eb5, hx5, hg5, ha5, hl5, hp5⟩ := q5
        obtain ⟨Gy, d1, sy1, hdy, rdy⟩ := ok1.yld _ _ Gx j H5 x1 H6 eb5 s5 hjl y1
        have s6 := s5.trans sy1
        obtain ⟨A2, tk2, tn2⟩ := rt j d1 acc5 hdy hp5
        refine tk2 Gy ps _ _ x1 ((S2 Gy H6 s6).wipe vs1) rdy _ s6.sub _ fun σ3 hw3 S3 => ⟨by rw [hw3, wipe_idem], ?_⟩
        exact turn_gen hLc (by omega) s6 (eb5.trans sy1.ex) (sy1.keep L _ nL hx5) (sy1.fr L (by rw [hx5]; exact fun z => nomatch z) hg5) (dp_upAll sy1.ex _ ha5) hl5 (S3 Gy _ s6.refl) tn2
      · have e : j = ds1.length := by omega
        subst e
        obtain ⟨Gx, xs5, acc5, s5, eb5, hx5, hg5, ha5, hl5, hp5⟩ := q5
        exact .inl ⟨ok1.stop _ H5 ex5 (Nat.le_refl _), Gx, xs5, acc5, sc.trans s5, eb'.trans s5.ex, hx5, hg5, ha5, by omega, rd1 acc5 hp5⟩
    · have e : i = ds.length := by omega
      subst e
      exact .inl ⟨ok.stop _ H' exH (Nat.le_refl _), lcj_end s1 hL q hd⟩
variable {scope : Scope} {elt tg1 it1 : Expr} {ifs ifs1 : List Expr} {own : List (Str × Nat)} {g g1 : TG} {vs1 : List Nat} {P : Nat → List PyData → Prop} {Ql : List PyData → Prop}
theorem ws_lc2Y {i : Nat} {y : Str} {py spos : Pos} (ok : BlkOk X.N X.env.scope scope own) (hv : ∀ i ∈ vs1, i ∈ own.map (·.2)) (hg : ∀ (s : Shared) (H : Hp) (C : Addr) (cl : List (Str × Addr)) (fp : List Addr), PG (X.blk s H scope (compEnvC scope cl C X.env) fp) tg g) (hg1 : ∀ (s : Shared) (H : Hp) (C : Addr) (cl : List (Str × Addr)) (fp : List Addr), PG (X.blk s H scope (compEnvC scope cl C X.env) fp) tg1 g1)
    (h : Lc2Y X c scope tg it tg1 it1 ifs1 elt g g1 (own.map (·.2)) vs1 A P fun ds => D.nx ⟨A.ρ.set i (.own A.μ.length), A.μ ++ [some ds]⟩) (nd : X.N.Nodup)
    (hy : X.N[i]? = some y := by rfl) (hyl : X.env.scope.names.lookup y = some .local := by rfl) (hsw : swapsWith (.ListComp elt [⟨tg, it, [], 0⟩, ⟨tg1, it1, ifs1, 0⟩] scope pos) (some (.Name y py)) spos.line X.env = pure true := by exact sw_true rfl rfl rfl (by decide +kernel)) (hc : X.calm = true := by rfl) (hs : ∀ x, foldedSetIterable it X.env x = pure x := by intro _; rfl) (hs1 : ∀ env x, foldedSetIterable it1 env x = pure x := by intro _ _; rfl) :
    WS X c (.Assign [.Name y py] (.ListComp elt [⟨tg, it, [], 0⟩, ⟨tg1, it1, ifs1, 0⟩] scope pos) spos) A D := fun G ps σ H S =>
  wS_of (ps_setLc2 hc nd hy hyl hsw pi_w ok hv hg (fun _ _ _ _ _ => pts_nil) (fun _ _ _ _ _ => bI_ok) hg1 (fun _ _ _ _ _ => bT_ok) (fun _ _ _ _ _ => bE_ok) hs hs1) (tLc2_mono (fun σ H R R' h k => wI_mono h k) (lc_read2Y h S) fun v H' q => setLc_end S q)
theorem wl_lc2Y (ok : BlkOk X.N X.env.scope scope own) (hv : ∀ i ∈ vs1, i ∈ own.map (·.2)) (hg : ∀ (s : Shared) (H : Hp) (C : Addr) (cl : List (Str × Addr)) (fp : List Addr), PG (X.blk s H scope (compEnvC scope cl C X.env) fp) tg g) (hg1 : ∀ (s : Shared) (H : Hp) (C : Addr) (cl : List (Str × Addr)) (fp : List Addr), PG (X.blk s H scope (compEnvC scope cl C X.env) fp) tg1 g1)
    (h : Lc2Y X c scope tg it tg1 it1 ifs1 elt g g1 (own.map (·.2)) vs1 A P Ql) (nd : X.N.Nodup) (hc : X.calm = true := by rfl) (hs : ∀ x, foldedSetIterable it X.env x = pure x := by intro _; rfl) (hs1 : ∀ env x, foldedSetIterable it1 env x = pure x := by intro _ _; rfl) :
    WL X c (.ListComp elt [⟨tg, it, [], 0⟩, ⟨tg1, it1, ifs1, 0⟩] scope pos) A Ql := fun G ps σ H S =>
  wE_of (pe_lc2 hc nd pi_w ok hv hg (fun _ _ _ _ _ => pts_nil) (fun _ _ _ _ _ => bI_ok) hg1 (fun _ _ _ _ _ => bT_ok) (fun _ _ _ _ _ => bE_ok) hs hs1) (lc_read2Y h S)
end
end Eng

set_option Elab.async false
set_option linter.all false
set_option maxRecDepth 100000
set_option maxHeartbeats 2000000
namespace Eng
open PySem PySem.Spec PyProof.Rows L2
open Evl (Ex)
section
variable {X : Cx} {c : Ct} {A A0 A1 A2 : AS} {e a b n tg it : Expr} {es : List Expr} {pos p p2 : Pos} {Q : PyData → Prop} {st : Stmt} {sts rest body : List Stmt} {D : ADs} {N : List Str} {vs : List Nat}
/-! ### own lists that are named no more are let go -/
def fgt (n : Nat) : SV → SV
  | .dat d => .dat d
  | .own k => if k < n then .own k else .any
  | .pool => .pool
  | .any => .any
theorem take_get {α : Type} {xs : List α} {n k : Nat} {x : α} (h : (xs.take n)[k]? = some x) : xs[k]? = some x := by
  rw [List.getElem?_take] at h
  split at h
  · exact h
  · cases h
theorem St.forget {K : PySem.W.Frag} {G : Hp} {ps : List Addr} {σ : L2.St} {H : Hp} (S : St K c A G ps σ H) (n : Nat) (hfx : c.fx = []) : St K c ⟨A.ρ.map (fgt n), A.μ.take n⟩ G (ps.take n) σ H where
  st := S.st
  len := by show σ.length = (A.ρ.map (fgt n)).length; rw [List.length_map]; exact S.len
  sl := fun i sv e => by
    have e' : (A.ρ.map (fgt n))[i]? = some sv := e
    rw [List.getElem?_map] at e'
    cases q : A.ρ[i]? with
    | none => rw [q] at e'; cases e'
    | some s0 =>
      rw [q] at e'
      have e2 : fgt n s0 = sv := Option.some.inj e'
      subst e2
      have old := S.sl i s0 q
      cases s0 with
      | dat d => exact old
      | pool => exact old
      | any => exact True.intro
      | own k =>
        obtain ⟨p, hp, hs⟩ := old
        show SlotOk K c.pa G (ps.take n) σ[i]? (if k < n then SV.own k else SV.any)
        by_cases hk : k < n
        · rw [if_pos hk]
          exact ⟨p, by rw [List.getElem?_take_of_lt hk]; exact hp, hs⟩
        · rw [if_neg hk]; exact True.intro
  mlen := by show (ps.take n).length = (A.μ.take n).length; exact (by rw [List.length_take, List.length_take, S.mlen])
  inj := fun i j p hi hj => S.inj i j p (take_get hi) (take_get hj)
  pre := fun i p hi => by rw [hfx] at hi; simp at hi
  new := fun p hp => S.new p (List.mem_of_mem_take hp)
  mu := fun k p ds hk hm => S.mu k p ds (take_get hk) (take_get hm)
theorem wb_forget (n : Nat) (hfx : c.fx = []) (h : WB X c sts ⟨A.ρ.map (fgt n), A.μ.take n⟩ D) : WB X c sts A D := fun G ps σ H S => h G (ps.take n) σ H (S.forget n hfx)
/-- the first own lists are named no more -/
def shf (n : Nat) : SV → SV
  | .dat d => .dat d
  | .own k => if k < n then .any else .own (k - n)
  | .pool => .pool
  | .any => .any
theorem St.shift {K : PySem.W.Frag} {G : Hp} {ps : List Addr} {σ : L2.St} {H : Hp} (S : St K c A G ps σ H) (n : Nat) (hfx : c.fx = []) : St K c ⟨A.ρ.map (shf n), A.μ.drop n⟩ G (ps.drop n) σ H where
  st := S.st
  len := by show σ.length = (A.ρ.map (shf n)).length; rw [List.length_map]; exact S.len
  sl := fun i sv e => by
    have e' : (A.ρ.map (shf n))[i]? = some sv := e
    rw [List.getElem?_map] at e'
    cases q : A.ρ[i]? with
    | none => rw [q] at e'; cases e'
    | some s0 =>
      rw [q] at e'
      have e2 : shf n s0 = sv := Option.some.inj e'
      subst e2
      have old := S.sl i s0 q
      cases s0 with
      | dat d => exact old
      | pool => exact old
      | any => exact True.intro
      | own k =>
        obtain ⟨p, hp, hs⟩ := old
        show SlotOk K c.pa G (ps.drop n) σ[i]? (if k < n then SV.any else SV.own (k - n))
        by_cases hk : k < n
        · rw [if_pos hk]; exact True.intro
        · rw [if_neg hk]
          exact ⟨p, by rw [List.getElem?_drop, show n + (k - n) = k by omega]; exact hp, hs⟩
  mlen := by show (ps.drop n).length = (A.μ.drop n).length; exact (by rw [List.length_drop, List.length_drop, S.mlen])
  inj := fun i j p hi hj => by
    rw [List.getElem?_drop] at hi hj
    have := S.inj _ _ p hi hj
    omega
  pre := fun i p hi => by rw [hfx] at hi; simp at hi
  new := fun p hp => S.new p (List.mem_of_mem_drop hp)
  mu := fun k p ds hk hm => S.mu (n + k) p ds (by rw [List.getElem?_drop] at hk; exact hk) (by
    have hm' : (A.μ.drop n)[k]? = some (some ds) := hm
    rw [List.getElem?_drop] at hm'
    exact hm')
theorem wb_shift (n : Nat) (hfx : c.fx = []) (h : WB X c sts ⟨A.ρ.map (shf n), A.μ.drop n⟩ D) : WB X c sts A D := fun G ps σ H S => h G (ps.drop n) σ H (S.shift n hfx)
/-! ### built-ins -/
theorem cd_min2 {i j : Int} (hc : X.calm = true) (q : Q (.int (if j < i then j else i))) : CalD X c (.builtin "min") [.int i, .int j] Q := ⟨_, call_min2 hc, fun _ _ G H vs s h => by
  cases h with
  | cons h1 h2 => cases h2 with
    | cons h2 h3 =>
      cases h3
      cases h1; cases h2
      exact ⟨i, j, rfl, G, _, s.refl, .int _, q⟩⟩
theorem cd_max2 {i j : Int} (hc : X.calm = true) (q : Q (.int (if j > i then j else i))) : CalD X c (.builtin "max") [.int i, .int j] Q := ⟨_, call_max2 hc, fun _ _ G H vs s h => by
  cases h with
  | cons h1 h2 => cases h2 with
    | cons h2 h3 =>
      cases h3
      cases h1; cases h2
      exact ⟨i, j, rfl, G, _, s.refl, .int _, q⟩⟩
theorem cd_abs {i : Int} (q : Q (.int (if i < 0 then -i else i))) : CalD X c (.builtin "abs") [.int i] Q := ⟨_, call_abs, fun _ _ G H vs s h => by
  cases h with
  | cons h1 h2 =>
    cases h2
    cases h1
    exact ⟨i, rfl, G, _, s.refl, .int _, q⟩⟩
theorem cd_sum {ns : List Int} (hc : X.calm = true) (q : Q (.int ns.sum)) : CalD X c (.builtin "sum") [.list (ns.map .int)] Q := ⟨_, cr_sum hc, fun _ _ G H vs s h => by
  cases h with
  | cons h1 h2 =>
    cases h2
    obtain ⟨p, xs, rfl, hs, ha⟩ := dp_list h1
    have ex := dall_ints_inv ha
    subst ex
    exact ⟨p, ns, rfl, Evl.ex_l s.sub hs, G, _, s.refl, .int _, q⟩⟩
theorem wl_blt {id : String} {x : Str} {Q : List PyData → Prop} (hm : X.mg x = none) (h : WA X c (e :: es) A fun as => ∃ ds, dats as = some ds ∧ CalL X c (.builtin id) ds Q) (hv : bootBuiltins x = some (.builtin id) := by decide +kernel) (hg : Gl X x := by rfl)
    (hn : x ≠ "__name__" := by decide) (hdb : (x == ("__debug__" : Str)) = false := by decide) (he : starEach (e :: es) X.env = (false, eval e X.env) :: starEach es X.env := by rfl) (hpl : (backTo pos (starEach es X.env)).any (·.1) = false := by rfl) :
    WL X c (.Call (.Name x p) (e :: es) [] pos) A Q := fun G ps σ H S =>
  wE_of (pe_callB cW_ok hg hm hv pa_w hn hdb he hpl) (wA_mono (h G ps σ H S) fun vs H1 ⟨G1, as, s1, r1, ds, ed, r, hr, q⟩ => fun pins s σ us I rv =>
    thn (hr pins s σ H1 vs us _ I rv (q G H G1 H1 vs s1 (dats_ok r1 ed))) fun _ _ ⟨v', H', I', r', G', d, st', dd, qq⟩ => ⟨v', H', I', r', G', d, s1.trans st', dd.back s1.live, qq⟩)
theorem cl_sorted {ns : List Int} {Q : List PyData → Prop} (q : ∀ ns' : List Int, ns'.Perm ns → ns'.Pairwise (· ≤ ·) → Q (ns'.map .int)) : CalL X c (.builtin "sorted") [.list (ns.map .int)] Q := ⟨_, cr_sortedI, fun _ _ G H vs s h => by
  cases h with
  | cons h1 h2 =>
    cases h2
    obtain ⟨p, xs, rfl, hs, ha⟩ := dp_list h1
    have ex := dall_ints_inv ha
    subst ex
    exact ⟨p, ns, rfl, Evl.ex_l s.sub hs, fun ns' l h1 h2 hl => ⟨G, _, s.lay hl, ⟨l, _, rfl, hl, Evl.fresh_back s.sub hl, upd_same, dall_ints⟩, q ns' h1 h2⟩⟩⟩
/-- sorted(e, reverse=True), ints -/
theorem wl_sortR {k : Nat} {kp kpos : Pos} {Q : List PyData → Prop} (hm : X.mg "sorted" = none) (h : WE X c e A fun d => ∃ ns : List Int, d = .list (ns.map .int) ∧ ∀ ns' : List Int, ns'.Perm ns → ns'.Pairwise (· ≥ ·) → Q (ns'.map .int)) (hg : Gl X "sorted" := by rfl)
    (hst : starEach [e] X.env = (false, eval e X.env) :: starEach [] X.env := by rfl) (he : backTo pos (starEach (e :: []) X.env) = (false, eval e X.env) :: backTo pos (starEach [] X.env) := by rfl) (hpl : (backTo pos (starEach (e :: []) X.env)).any (·.1) = false := by rfl)
    (hks : (backToKw pos (keywordEach [⟨some "reverse", .Constant (.bool true) k kp, kpos⟩] X.env)).filterMap (·.1) = [Str.ofString "reverse"] := by rfl) :
    WL X c (.Call (.Name "sorted" p) [e] [⟨some "reverse", .Constant (.bool true) k kp, kpos⟩] pos) A Q := fun G ps σ H S =>
  wE_of (pe_callBK (cr_sortedRev (b := true)) hg hm boot_sorted (pa_cons pe_w pa_nil hst) (pk_cons pe_bl pk_nil) (by decide) (by decide) he hpl rfl rfl hks) (wE_mono (h G ps σ H S) fun v H1 ⟨G1, d, s1, r1, ns, e1, q⟩ => by
    subst e1
    obtain ⟨p, xs, rfl, hs, ha⟩ := dp_list r1
    have ex := dall_ints_inv ha
    subst ex
    refine ⟨p, ns, rfl, rfl, Evl.ex_l s1.sub hs, fun ns' l z1 z2 hl => ?_⟩
    refine ⟨G1, _, s1.trans (s1.lay hl), ⟨l, _, rfl, ?_, Evl.fresh_back s1.sub hl, upd_same, dall_ints⟩, q ns' z1 z2⟩
    cases q2 : H l with
    | none => rfl
    | some o => exact absurd hl (s1.live l (by rw [q2]; exact fun z => nomatch z)))
/-! ### x + e, x a list of one's own, e a new list -/
theorem wl_catO {i k : Nat} {x : Str} {px : Pos} {ds : List PyData} {Q : List PyData → Prop} (hN : N[i]? = some x) (eN : X.N = N) (hρ : A.ρ[i]? = some (.own k)) (hm : A.μ[k]? = some (some ds)) (hv : Vis X.env.scope x) (hd : ((x == ("__debug__" : Str)) = false) ∧ (x == ("__classdict__" : Str)) = false)
    (h : WL X c e A fun es => ds.length + es.length ≤ 100000 ∧ Q (ds ++ es)) : WL X c (.BinOp (.Name x px) .Add e pos) A Q := fun G ps σ H S pins s I => by
  obtain ⟨p, hp, hsl⟩ := S.sl i _ hρ
  refine wpAny_BinOp (binT (R := fun v1 v2 H' => ∃ G' b xs zs es, Stp X.K c.pa G H G' H' ∧ v1 = .ref p ∧ v2 = .ref b ∧ H' p = some (.lst xs) ∧ H' b = some (.lst zs) ∧ DpAll X.K G' xs ds ∧ DpAll X.K G' zs es ∧ ds.length + es.length ≤ 100000 ∧ Q (ds ++ es)) (pe_var (by rw [eN]; exact hN) hv hd.1 hd.2) pe_w I
    ⟨.ref p, hsl, wE_mono (h G ps σ H S) fun v2 H2 ⟨G2, es, s2, ⟨b, zs, ev, hb0, hbg, hb, hz⟩, hl, q⟩ => by
      subst ev
      obtain ⟨g1, ys, hy, hyd⟩ := (S.step s2).mu k p ds hp hm
      exact ⟨G2, b, ys, zs, es, s2, rfl, rfl, hy, hb, hyd, hz, hl, q⟩⟩
    fun v u s2 x y H2 I2 rx ry ⟨G2, b, xs, zs, es, st, z1, z2, hx, hb, dx, dz, hl, q⟩ => ?_)
  subst z1
  subst z2
  refine op_cat pins s2 σ H2 _ _ v u _ I2 rx ry ⟨p, b, xs, zs, rfl, rfl, hx, hb, by rw [dall_len dx, dall_len dz]; exact Evl.sz_of hl, fun P hP => ?_⟩
  refine ⟨G2, _, st.trans (st.lay hP), ⟨P, _, rfl, ?_, Evl.fresh_back st.sub hP, upd_same, dall_app dx dz⟩, q⟩
  cases q2 : H P with
  | none => rfl
  | some o => exact absurd hP (st.live P (by rw [q2]; exact fun z => nomatch z))
/-! ### data that are compared: of one shape -/
def Shp (n : Nat) (d : PyData) : Prop := d.canLay0 = true ∧ d.depth ≤ n
theorem shp_int (n : Nat) (i : Int) : Shp n (.int i) := ⟨by simp only [PyData.canLay0], by simp only [PyData.depth]; omega⟩
theorem shp_boo (n : Nat) (i : Bool) : Shp n (.bool i) := ⟨by simp only [PyData.canLay0], by simp only [PyData.depth]; omega⟩
theorem shp_all {n : Nat} : ∀ {ds : List PyData}, (∀ d ∈ ds, Shp n d) → PyData.canLayAll0 ds = true ∧ PyData.depthAll ds ≤ n
  | [], _ => ⟨by simp only [PyData.canLayAll0], by simp only [PyData.depthAll]; omega⟩
  | d :: ds, h => by
    obtain ⟨h1, h2⟩ := shp_all (ds := ds) fun x hx => h x (List.mem_cons_of_mem _ hx)
    obtain ⟨h3, h4⟩ := h d (List.mem_cons_self ..)
    exact ⟨by simp only [PyData.canLayAll0, h1, h3, Bool.and_self], by simp only [PyData.depthAll]; omega⟩
theorem shp_list {n : Nat} {ds : List PyData} (h : ∀ d ∈ ds, Shp n d) : Shp (n + 1) (.list ds) := by
  obtain ⟨h1, h2⟩ := shp_all h
  exact ⟨by simp only [PyData.canLay0]; exact h1, by simp only [PyData.depth]; omega⟩
theorem shp_tup {n : Nat} {ds : List PyData} (h : ∀ d ∈ ds, Shp n d) : Shp (n + 1) (.tuple ds) := by
  obtain ⟨h1, h2⟩ := shp_all h
  exact ⟨by simp only [PyData.canLay0]; exact h1, by simp only [PyData.depth]; omega⟩
theorem shp_ints (ns : List Int) : Shp 1 (.list (ns.map .int)) := shp_list fun d hd => by
  obtain ⟨i, _, rfl⟩ := List.mem_map.mp hd
  exact shp_int 0 i
theorem Shp.shaped {n : Nat} {d : PyData} (h : Shp n d) (hn : n ≤ 64) : SeqAt.shaped d = true := by
  unfold SeqAt.shaped
  rw [h.1, Bool.true_and]
  exact decide_eq_true (Nat.le_trans h.2 hn)
theorem od_eqS' {n : Nat} {d : PyData} (hu : X.A.units + 64 < cLine) (h : Shp n d) (hn : n ≤ 64) (q : Q (.bool true)) : OpD X c (compareOp .Eq) d d Q :=
  od_eqD hu (h.shaped hn) (h.shaped hn) (by rw [SeqAt.eqv_refl _ h.1]; exact q)
theorem od_neD {d1 d2 : PyData} (hu : X.A.units + 64 < cLine) (s1 : SeqAt.shaped d1 = true) (s2 : SeqAt.shaped d2 = true) (q : Q (.bool (!PyData.eqv d1 d2))) : OpD X c (compareOp .NotEq) d1 d2 Q :=
  ⟨_, op_neD hu, fun _ _ G H v1 v2 s h1 h2 => ⟨d1, d2, dp_up s.sub d1 h1, dp_up s.sub d2 h2, s1, s2, G, _, s.refl, .bl _, q⟩⟩
theorem od_neS' {n : Nat} {d : PyData} (hu : X.A.units + 64 < cLine) (h : Shp n d) (hn : n ≤ 64) (q : Q (.bool false)) : OpD X c (compareOp .NotEq) d d Q :=
  od_neD hu (h.shaped hn) (h.shaped hn) (by rw [SeqAt.eqv_refl _ h.1]; exact q)
end
/-! ### a def by data, its fixed lists none -/
theorem def_okF {P : Program} {w : World} {K : PySem.W.Frag} {mg : Str → Option Value} {base : Heap} {x qual : Str} {st : Stmt} {f : Addr} {fd : FuncData} {N ps : List Str} {k n : Nat} {sp : DSpec} (F : Fun K x qual st f fd) (S : FnScope N ps (defScope st)) (hn : n = ps.length)
    (body : ∀ (cdv : Value) (A : Around) (outer : List Env) (s : Shared) (H : Hp) (E : XK) (c : Ct) (as : List AV) (R : RV → Prop), c.fx = [] → Room k (A.deeper (envOfC qual (defScope st) s.heap.objs.size f cdv)) → as.length = n → sp as R →
      WB (cxOf CX0 P w K mg base N qual (defScope st) f cdv A outer s H E).nox c (defBody st) (entry N as) { nx := fun _ => R (.D .none), rt := fun r _ => R r }) : FnOk P w K mg base CX0 (k + 1) f fd ps (lift K n sp) := by
  refine F.ok S (fun vs H Q E h => ?_) (fun cdv A outer s H vs Q E hr h => ?_)
  · obtain ⟨G, pa, as, s, h, hl, _⟩ := h
    rw [h.len, hl, hn]
  · obtain ⟨G, pa, as, st0, h, hl, q⟩ := h
    refine ⟨_, pss_w, ?_⟩
    refine wB_mono (body cdv A outer s H E ⟨H, G, pa, []⟩ as _ rfl hr hl q G [] _ H (start_ok st0 h)) ?_ ?_ (fun _ _ z => ?_) fun _ _ z => ?_
    · rintro σ' H' ⟨A', G', ps', e', S', r⟩
      exact r .non G' H' S'.st .non
    · rintro v H' ⟨r, A', G', ps', σ', S', ro, q'⟩
      exact q' v G' H' S'.st ro
    · obtain ⟨_, _, _, _, _, z⟩ := z
      exact z
    · obtain ⟨_, _, _, _, _, z⟩ := z
      exact z
end Eng

set_option Elab.async false
set_option linter.all false
set_option maxRecDepth 100000
set_option maxHeartbeats 2000000
namespace Eng
open PySem PySem.Spec PyProof.Rows L2
open Evl (Ex)
/-! ### sorted of a tuple of ints, fewer than 64 -/
section
variable {pg : Program} {wo : World} {Ar : Around} {Ex0 : Value → Shared → Prop} {sh : Shared}
/-- the heap with a new list that takes what stands in us -/
def tkH (h : Heap) (us : List Value) : Heap := (h.push (seqObj "list" #[] 0)).update h.objs.size (Obj.mapSeq (· ++ us.toArray))
theorem coll_tup {t : Addr} {us : List Value} {R : List Value → Shared → Prop} {ob : Obj} {m : Nat} (g1 : sh.heap.get? t = some ob) (g2 : ob.cls = .type "tuple") (g3 : ob.data = .seq us.toArray m)
    (k : R us { sh with heap := tkH sh.heap us }) (few : us.length < 64) : wpAny (model pg wo) Ar (collect (.ref t)) R Ex0 sh := by
  unfold collect
  refine wpAny_bind (wpAny_runValue (codeAny_builtin entry_proto_collect' ?_))
  show wpAny _ _ (do again (.builtin "list.__iadd__" ⟨[← newList [], .ref t], []⟩)) _ _ sh
  refine wpAny_bind (wpAny_newList (wpAny_pure ⟨Code.quiet_builtin _ (by decide +kernel),
    codeAny_builtin entry_list_iadd' ?_⟩))
  show wpAny _ _ (Builtin.List.listExtendWith (.ref sh.heap.objs.size) (.ref t) (.ref sh.heap.objs.size)) _ _ _
  have g4 : (sh.heap.push (seqObj "list" #[] 0)).get? t = some ob := Heap.get?_push_of_some _ g1
  unfold Builtin.List.listExtendWith
  refine wpAny_bind (wpAny_typeOf (T := "tuple") ⟨ob, g4, g2⟩ ?_)
  have tt : (Value.type "tuple" == Value.type "tuple") = true := rfl
  rw [if_pos (by rw [tt, Bool.or_true])]
  refine wpAny_bind (listItems_at g4 g3 ?_)
  have g5 : (sh.heap.push (seqObj "list" #[] 0)).get? sh.heap.objs.size = some (seqObj "list" #[] 0) := Heap.get?_push_size _ rfl
  refine wpAny_bind (listItems_at (xs := #[]) (n := 0) g5 rfl ?_)
  rw [if_neg (by simp)]
  have big : us.length ≤ sizeLine + 1 := by rw [sizeLine_eq]; omega
  refine wpAny_bind (listUpdate_at (xs := #[]) (n := 0) g5 rfl ?_ (Nat.zero_le _) (by
    show ((#[] : Array Value) ++ us.toArray).size ≤ sizeLine + 1
    simp only [Array.size_append, List.size_toArray, List.length_nil]; omega))
  refine wpAny_pure ?_
  show wpAny (model pg wo) Ar (do
      let ob ← load sh.heap.objs.size
      match ob.data with
      | .seq ys _ => pure ys.toList
      | _ => unsupported "internal:collect") R Ex0 { sh with heap := tkH sh.heap us }
  refine wpAny_bind (wpAny_load (get?_update_seq g5 _) ?_)
  show wpAny (model pg wo) Ar (pure ((#[] : Array Value) ++ us.toArray).toList) R Ex0 _
  rw [show ((#[] : Array Value) ++ us.toArray).toList = us by simp]
  exact wpAny_pure k
theorem sortT_ints {t : Addr} {us : List Value} {ns : List Int} {R : Value → Shared → Prop} {ob : Obj} {m : Nat} (g1 : sh.heap.get? t = some ob) (g2 : ob.cls = .type "tuple") (g3 : ob.data = .seq us.toArray m) (hI : IntsAre us ns) (few : us.length < 64)
    (k : ∀ (out : Array Value) (ms : List Int), IntsAre out.toList ms → ms.Perm ns → ms.Pairwise (· ≤ ·) → R (.ref (sh.heap.objs.size + 1)) { sh with heap := sortedAll sh.heap us out }) :
    wpAny (model pg wo) Ar (call (.builtin "sorted") [.ref t]) R Ex0 sh := by
  refine Calls.call_function_entry kind_sorted plain_sorted entry_sorted (args_sorted1 _) ?_
  unfold Builtin.«sorted»
  refine wpAny_bind (m := checkCount "sorted" 1 1 _) (wpAny_pure (?_))
  refine wpAny_bind (coll_tup g1 g2 g3 ?_ few)
  refine wpAny_bind (wpAny_newList ?_)
  have sz : (tkH sh.heap us).objs.size = sh.heap.objs.size + 1 := by unfold tkH; rw [Heap.size_update, size_push']
  have at1 : ((tkH sh.heap us).push (seqObj "list" us.toArray 0)).get? (sh.heap.objs.size + 1) = some (seqObj "list" us.toArray 0) := by
    rw [← sz]; exact Heap.get?_push_size _ rfl
  show wpAny _ _ _ _ _ { sh with heap := (tkH sh.heap us).push (seqObj "list" us.toArray 0) }
  rw [sz]
  refine wpAny_bind (wpAny_holding (wpAny_call_entry slot_list_sort ⟨_, at1, rfl⟩ entry_list_sort
    (list_sort_tree at1 hI few fun out ms b1 b2 b3 => ⟨_, rfl, ?_⟩) (args_list_sort _)))
  exact wpAny_pure ⟨_, rfl, k out ms b1 b2 b3⟩
end
section
variable {X : Cx} {c : Ct}
theorem cr_sortTu : CallR X (.builtin "sorted") (fun vs H Q => ∃ (a : Addr) (ns : List Int), vs = [V.ref a] ∧ SqT X.K H a (ns.map V.int) ∧ ns.length < 64 ∧
    ∀ (ms : List Int) (p : Addr), ms.Perm ns → ms.Pairwise (· ≤ ·) → H p = none → Q (.ref p) (upd H p (.lst (ms.map V.int)))) := by
  intro pins s σ H vs us Q I r h
  obtain ⟨a, ns, rfl, hs, few, q⟩ := h
  obtain ⟨its, rv, ⟨ob, g1, g2, m, g3⟩, hz⟩ := I.tuple hs
  rw [Vals.ref1 r]
  have hi := rv.ints
  refine sortT_ints g1 g2 g3 hi (by rw [hi.length]; exact few) fun out ms h1 h2 h3 => ?_
  obtain ⟨ep, he⟩ := PyProof.Rows.sortedAll_at s.heap its out
  have hlen : (ms.map V.int).length ≤ sizeLine := by
    rw [List.length_map, h2.length_eq]
    exact small64 few
  refine ⟨.ref _, upd H (s.heap.objs.size + 1) (.lst (ms.map V.int)), ?_, rfl, q ms _ h2 h3 (I.hok.fresh (Nat.le_succ _))⟩
  exact I.laid (t' := s.toks) (fun _ _ => PyProof.Rows.sortedAll_old) (Nat.le_succ _) ⟨hlen, out.toList, ep, vals_of_ints h1, he⟩
theorem cl_sortTu {ns : List Int} {Q : List PyData → Prop} (few : ns.length < 64) (q : ∀ ms : List Int, ms.Perm ns → ms.Pairwise (· ≤ ·) → Q (ms.map .int)) : CalL X c (.builtin "sorted") [.tuple (ns.map .int)] Q := ⟨_, cr_sortTu, fun _ _ G H vs s h => by
  cases h with
  | cons h1 h2 =>
    cases h2
    obtain ⟨p, xs, rfl, hs, ha⟩ := dp_tup h1
    have ex := dall_ints_inv ha
    subst ex
    exact ⟨p, ns, rfl, Evl.ex_t s.sub hs, few, fun ms l h1 h2 hl => ⟨G, _, s.lay hl, ⟨l, _, rfl, hl, Evl.fresh_back s.sub hl, upd_same, dall_ints⟩, q ms h1 h2⟩⟩⟩
/-! ### for, over anything -/
theorem ws_forY {A : AS} {tg it : Expr} {body : List Stmt} {pos : Pos} {D : ADs} {I : Nat → AS → Prop} (h : WIY X c tg it A fun ds => I 0 A ∧ (∀ i x A', ds[i]? = some x → I i A' → WG X c tg x A' fun A2 => WB X c body A2 { D with nx := I (i + 1), ct := I (i + 1), bk := D.nx }) ∧ ∀ A', I ds.length A' → D.nx A')
    (hp : PassesOwn (model X.prog X.w) X.A X.env X.xe) (hc : X.calm = true := by rfl) (hs : ∀ x, foldedSetIterable it X.env x = pure x := by intro _; rfl) : WS X c (.For tg it body [] pos) A D := fun G ps σ H S =>
  wS_of (ps_for hp hc pi_w pg_w pss_w hs) (wI_mono (h G ps σ H S) fun J H1 ⟨G1, ds, s1, ok, i0, hi, hd⟩ => by
    have S1 := S.step s1
    refine ⟨fun i m σ' H' => m = ds.length - i ∧ i ≤ ds.length ∧ ∃ A' G' ps', Ex G1 G' ∧ St X.K c A' G' ps' σ' H' ∧ I i A', ⟨_, rfl, Nat.zero_le _, A, G1, ps, Ex.refl G1, S1, i0⟩, ?_⟩
    rintro i m σ' H' ⟨rfl, hle, A', G', ps', e', S', q⟩
    have ex := e'.trans S'.st.sub
    by_cases hlt : i < ds.length
    · refine .inr ⟨ok.go i H' ex hlt, fun σ2 H2 => ∃ A2 G2 ps2, Ex G1 G2 ∧ St X.K c A2 G2 ps2 σ2 H2 ∧ I (i + 1) A2, fun σ2 H2 z => ⟨ds.length - (i + 1), by omega, rfl, hlt, z⟩, fun x H2 y => ?_⟩
      obtain ⟨G2, d, s2, hdx, rd⟩ := ok.yld _ _ G' i H' x H2 e' S'.st hlt y
      refine wG_mono (hi i d A' hdx q G2 ps' σ' H2 x (S'.step s2) rd) fun σ3 H3 ⟨A3, G3, s3, S3, q3⟩ => ?_
      have e3 := (e'.trans s2.ex).trans s3.ex
      refine wB_mono (q3 G3 ps' σ3 H3 S3) (fun σ4 H4 ⟨A4, G4, ps4, e4, S4, q4⟩ => ⟨A4, G4, ps4, e3.trans e4, S4, q4⟩) (fun _ _ q => q) (fun σ4 H4 ⟨A4, G4, ps4, e4, S4, q4⟩ => ⟨A4, G4, ps4, (s1.ex.trans e3).trans e4, S4, q4⟩) (fun σ4 H4 ⟨A4, G4, ps4, e4, S4, q4⟩ => ⟨A4, G4, ps4, e3.trans e4, S4, q4⟩)
    · have e : i = ds.length := by omega
      subst e
      exact .inl ⟨ok.stop _ H' ex (Nat.le_refl _), A', G', ps', s1.ex.trans e', S', hd A' q⟩)
end
end Eng

set_option Elab.async false
set_option linter.all false
set_option maxRecDepth 100000
set_option maxHeartbeats 2000000
namespace Eng
open PySem PySem.Spec PyProof.Rows L2
open Evl (Ex)
section
variable {X : Cx} {c : Ct} {A : AS} {Q : PyData → Prop}
/-! ### x in, not in a list, data of any depth -/
theorem od_inD {d : PyData} {ds : List PyData} (hu : X.A.units + 65 < cLine) (s1 : SeqAt.shaped d = true) (s2 : SeqAt.shaped (.list ds) = true) (q : Q (.bool (ds.any fun z => PyData.eqv z d))) : OpD X c (compareOp .In) d (.list ds) Q :=
  ⟨_, op_inD hu, fun _ _ G H v1 v2 s h1 h2 => ⟨d, ds, dp_up s.sub d h1, dp_up s.sub _ h2, s1, s2, G, _, s.refl, .bl _, q⟩⟩
theorem od_ninD {d : PyData} {ds : List PyData} (hu : X.A.units + 65 < cLine) (s1 : SeqAt.shaped d = true) (s2 : SeqAt.shaped (.list ds) = true) (q : Q (.bool (!ds.any fun z => PyData.eqv z d))) : OpD X c (compareOp .NotIn) d (.list ds) Q :=
  ⟨_, op_notInD hu, fun _ _ G H v1 v2 s h1 h2 => ⟨d, ds, dp_up s.sub d h1, dp_up s.sub _ h2, s1, s2, G, _, s.refl, .bl _, q⟩⟩
/-! ### tuple(list) -/
theorem cd_tuple {ds : List PyData} (q : Q (.tuple ds)) : CalD X c (.type "tuple") [.list ds] Q := ⟨_, call_tuple_of, fun _ _ G H vs s h => by
  cases h with
  | cons h1 h2 =>
    cases h2
    obtain ⟨p, xs, rfl, hs, ha⟩ := dp_list h1
    refine ⟨p, xs, rfl, .inl ⟨Evl.ex_l s.sub hs, fun l hl => ?_⟩⟩
    have n := s.new (o := .tup xs) hl
    exact ⟨_, _, n, .tup (.inl (.inl upd_same)) (dp_upAll n.ex _ ha), q⟩⟩
/-! ### sorted of a list of tuples of ints -/
def tI (ns : List Int) : PyData := .tuple (ns.map .int)
theorem dall_perm {K : PySem.W.Frag} {G : Hp} : ∀ {ys xs : List V}, ys.Perm xs → ∀ {ps : List (List Int)}, DpAll K G xs (ps.map tI) → ∃ qs : List (List Int), qs.Perm ps ∧ DpAll K G ys (qs.map tI) := fun {ys xs} h => by
  induction h with
  | nil => intro ps hd; exact ⟨ps, .refl _, hd⟩
  | cons x _ ih =>
    intro ps hd
    cases ps with
    | nil => cases hd
    | cons p ps =>
      cases hd with
      | cons h1 h2 =>
        obtain ⟨qs, hq, hd⟩ := ih h2
        exact ⟨p :: qs, hq.cons p, .cons h1 hd⟩
  | swap x y l =>
    intro ps hd
    match ps, hd with
    | [], hd => cases hd
    | [p], hd => cases hd with
      | cons _ h2 => cases h2
    | p :: q :: ps, hd =>
      cases hd with
      | cons h1 h2 => cases h2 with
        | cons h2 h3 => exact ⟨q :: p :: ps, .swap _ _ _, .cons h2 (.cons h1 h3)⟩
  | trans _ _ ih1 ih2 =>
    intro ps hd
    obtain ⟨qs, hq, hd⟩ := ih2 hd
    obtain ⟨rs, hr, hd⟩ := ih1 hd
    exact ⟨rs, hr.trans hq, hd⟩
theorem tupI_of {K : PySem.W.Frag} {G H : Hp} {x : V} {ns : List Int} (e : Ex G H) (h : Dp K G x (tI ns)) : TupI K H x ns := by
  obtain ⟨t, xs, rfl, hs, ha⟩ := dp_tup h
  have ex := dall_ints_inv ha
  subst ex
  exact ⟨t, rfl, Evl.ex_t e hs⟩
theorem cl_sortTs {ps : List (List Int)} {d : Nat} {B : Int} {Q : List PyData → Prop} (hd : 1 ≤ d) (few : ps.length < 64) (hp : ∀ p ∈ ps, p.length = d ∧ TS.Bd B p)
    (q : ∀ qs : List (List Int), qs.Perm ps → qs.Pairwise (fun n m => TS.code B n ≤ TS.code B m) → Q (qs.map tI)) : CalL X c (.builtin "sorted") [.list (ps.map tI)] Q := ⟨_, cr_sortT (d := d) (B := B) hd, fun _ _ G H vs s h => by
  cases h with
  | cons h1 h2 =>
    cases h2
    obtain ⟨p, xs, rfl, hs, ha⟩ := dp_list h1
    refine ⟨p, xs, rfl, Evl.ex_l s.sub hs, by rw [dall_len ha, List.length_map]; exact few, fun x hx => ?_, fun ys l h1 h2 hl => ?_⟩
    · obtain ⟨i, hi⟩ := List.getElem?_of_mem hx
      obtain ⟨dx, hdx, r⟩ := dall_getV ha hi
      rw [List.getElem?_map] at hdx
      cases hq : ps[i]? with
      | none => rw [hq] at hdx; cases hdx
      | some n =>
        rw [hq] at hdx
        have ex : tI n = dx := Option.some.inj hdx
        subst ex
        obtain ⟨z1, z2⟩ := hp n (List.mem_of_getElem? hq)
        exact ⟨n, tupI_of s.sub r, z1, z2⟩
    · obtain ⟨qs, hq, hd⟩ := dall_perm h1 ha
      refine ⟨G, _, s.lay hl, ⟨l, _, rfl, hl, Evl.fresh_back s.sub hl, upd_same, hd⟩, q qs hq ?_⟩
      have hlen : ys.length = qs.length := by rw [dall_len hd, List.length_map]
      rw [List.pairwise_iff_getElem]
      intro i j hi hj hij
      have at1 : ∀ i (hi : i < qs.length), TupI X.K H (ys[i]'(by omega)) qs[i] := fun i hi => by
        obtain ⟨dx, hdx, r⟩ := dall_getV hd (List.getElem?_eq_getElem (show i < ys.length by omega))
        rw [List.getElem?_map, List.getElem?_eq_getElem hi] at hdx
        have ex : tI qs[i] = dx := Option.some.inj hdx
        subst ex
        exact tupI_of s.sub r
      exact (List.pairwise_iff_getElem.mp h2) i j (by omega) (by omega) hij _ _ (at1 i hi) (at1 j hj)⟩
end
end Eng

set_option Elab.async false
set_option linter.all false
set_option maxRecDepth 100000
set_option maxHeartbeats 2000000
namespace Eng
open PySem PySem.Spec PyProof.Rows L2
open Evl (Ex)
section
variable {X : Cx} {c : Ct} {Q : PyData → Prop}
theorem dall_bools {K : PySem.W.Frag} {G : Hp} : ∀ {vs : List V} {bs : List Bool}, DpAll K G vs (bs.map PyData.bool) → vs = bs.map V.bl
  | _, [], h => by cases h; rfl
  | _, b :: bs, h => by
    cases h with
    | cons h1 h2 =>
      cases h1
      rw [dall_bools h2]
      rfl
theorem cd_all {bs : List Bool} (hc : X.calm = true) (q : Q (.bool (bs.all id))) : CalD X c (.builtin "all") [.list (bs.map .bool)] Q := ⟨_, cr_all hc, fun _ _ G H vs s h => by
  cases h with
  | cons h1 h2 =>
    cases h2
    obtain ⟨p, xs, rfl, hs, ha⟩ := dp_list h1
    have ex := dall_bools ha
    subst ex
    exact ⟨p, bs, rfl, Evl.ex_l s.sub hs, G, _, s.refl, .bl _, q⟩⟩
theorem cd_any {bs : List Bool} (hc : X.calm = true) (q : Q (.bool (bs.any id))) : CalD X c (.builtin "any") [.list (bs.map .bool)] Q := ⟨_, cr_any hc, fun _ _ G H vs s h => by
  cases h with
  | cons h1 h2 =>
    cases h2
    obtain ⟨p, xs, rfl, hs, ha⟩ := dp_list h1
    have ex := dall_bools ha
    subst ex
    exact ⟨p, bs, rfl, Evl.ex_l s.sub hs, G, _, s.refl, .bl _, q⟩⟩
end
end Eng

set_option Elab.async false
set_option linter.all false
set_option maxRecDepth 100000
set_option maxHeartbeats 2000000
namespace Eng
/-! ### products of letters, bit by bit -/
def cnt : Nat → Nat → Nat
  | 0, _ => 0
  | L + 1, n => cnt L n + (n.testBit L).toNat
theorem cnt_filter (L n : Nat) : cnt L n = ((List.range L).filter fun k => n.testBit k).length := by
  induction L with
  | zero => rfl
  | succ L ih =>
    rw [List.range_succ, List.filter_append, List.length_append, ← ih]
    show cnt L n + (n.testBit L).toNat = _
    cases h : n.testBit L with
    | true => rw [List.filter_cons_of_pos (p := fun k => n.testBit k) h]; rfl
    | false => rw [List.filter_cons_of_neg (p := fun k => n.testBit k) (by rw [h]; exact Bool.false_ne_true)]; rfl
theorem pop_cnt {L n : Nat} (h : n < 2 ^ L) : pop n = cnt L n := by rw [← bits_len, bits_filter L n h, cnt_filter]
/-- the letter of a qubit: 1 for x, 2 for z -/
def lx (x z q : Nat) : Nat := x / 2 ^ q % 2 + 2 * (z / 2 ^ q % 2)
theorem lx_lt (x z q : Nat) : lx x z q < 4 := by unfold lx; omega
theorem lx_cast (x z q : Nat) : ((x / 2 ^ q % 2 : Nat) : Int) + 2 * ((z / 2 ^ q % 2 : Nat) : Int) = ((lx x z q : Nat) : Int) := by unfold lx; omega
theorem lx_bits (x z q : Nat) : lx x z q = (x.testBit q).toNat + 2 * (z.testBit q).toNat := by unfold lx; rw [Nat.toNat_testBit, Nat.toNat_testBit]
/-- what two letters add to the power of a product -/
def ph1 (one two : Nat) : Nat := if (one = 1 ∧ two = 3) ∨ (one = 3 ∧ two = 2) ∨ (one = 2 ∧ two = 1) then 1 else 3
def clash (one two : Nat) : Bool := decide (0 < one) && (decide (0 < two) && !decide (one = two))
def ph (one two : Nat) : Nat := if clash one two then ph1 one two else 0
def phs (ax az bx bz : Nat) : Nat → Nat
  | 0 => 0
  | L + 1 => phs ax az bx bz L + ph (lx ax az L) (lx bx bz L)
def odds (ax az bx bz : Nat) : Nat → Nat
  | 0 => 0
  | L + 1 => if clash (lx ax az L) (lx bx bz L) then 1 - odds ax az bx bz L else odds ax az bx bz L
theorem ph_bit (a b c d : Bool) : ((((a && b).toNat : Int) + ((c && d).toNat : Int) - (((a ^^ c) && (b ^^ d)).toNat : Int) + 2 * ((b && c).toNat : Int)) - (ph (a.toNat + 2 * b.toNat) (c.toNat + 2 * d.toNat) : Int)) % 4 = 0 := by
  cases a <;> cases b <;> cases c <;> cases d <;> decide
theorem clash_bit (a b c d : Bool) : clash (a.toNat + 2 * b.toNat) (c.toNat + 2 * d.toNat) = ((a && d) ^^ (b && c)) := by
  cases a <;> cases b <;> cases c <;> cases d <;> decide
theorem phs_eq (ax az bx bz : Nat) : ∀ L, (((cnt L (ax &&& az) : Int) + (cnt L (bx &&& bz) : Int) - (cnt L ((ax ^^^ bx) &&& (az ^^^ bz)) : Int) + 2 * (cnt L (az &&& bx) : Int)) - (phs ax az bx bz L : Int)) % 4 = 0
  | 0 => rfl
  | L + 1 => by
    have ih := phs_eq ax az bx bz L
    have h := ph_bit (ax.testBit L) (az.testBit L) (bx.testBit L) (bz.testBit L)
    simp only [cnt, phs, Nat.testBit_and, Nat.testBit_xor, lx_bits]
    push_cast
    omega
theorem odds_eq (ax az bx bz : Nat) : ∀ L, odds ax az bx bz L = cnt L ((ax &&& bz) ^^^ (az &&& bx)) % 2
  | 0 => rfl
  | L + 1 => by
    have ih := odds_eq ax az bx bz L
    simp only [cnt, odds, Nat.testBit_and, Nat.testBit_xor, lx_bits, clash_bit]
    cases ((ax.testBit L && bz.testBit L) ^^ (az.testBit L && bx.testBit L)) with
    | true => simp only [if_true, Bool.toNat_true]; omega
    | false => simp only [Bool.false_eq_true, if_false, Bool.toNat_false]; omega
/-- the power of a product, as the program counts it and as the letters tell it -/
def pmul (a b : Nat × Nat × Nat) : Nat × Nat × Nat := ((a.1 + b.1 + phs a.2.1 a.2.2 b.2.1 b.2.2 ((a.2.1 ||| a.2.2 ||| b.2.1 ||| b.2.2).log2 + 1)) % 4, a.2.1 ^^^ b.2.1, a.2.2 ^^^ b.2.2)
theorem phs_stop (ax az bx bz : Nat) {L : Nat} (h1 : ax < 2 ^ L) (h2 : az < 2 ^ L) (h3 : bx < 2 ^ L) (h4 : bz < 2 ^ L) : ∀ k, phs ax az bx bz (L + k) = phs ax az bx bz L
  | 0 => rfl
  | k + 1 => by
    have up : ∀ {n : Nat}, n < 2 ^ L → n.testBit (L + k) = false := fun h => Nat.testBit_lt_two_pow (Nat.lt_of_lt_of_le h (Nat.pow_le_pow_right (by decide) (by omega)))
    show phs ax az bx bz (L + k) + ph (lx ax az (L + k)) (lx bx bz (L + k)) = _
    rw [phs_stop ax az bx bz h1 h2 h3 h4 k, lx_bits, lx_bits, up h1, up h2, up h3, up h4]
    rfl
theorem phs_any (ax az bx bz : Nat) {L M : Nat} (h1 : ax < 2 ^ L) (h2 : az < 2 ^ L) (h3 : bx < 2 ^ L) (h4 : bz < 2 ^ L) (k1 : ax < 2 ^ M) (k2 : az < 2 ^ M) (k3 : bx < 2 ^ M) (k4 : bz < 2 ^ M) : phs ax az bx bz L = phs ax az bx bz M := by
  rcases Nat.le_total L M with h | h
  · obtain ⟨d, rfl⟩ := Nat.exists_eq_add_of_le h
    exact (phs_stop ax az bx bz h1 h2 h3 h4 d).symm
  · obtain ⟨d, rfl⟩ := Nat.exists_eq_add_of_le h
    exact phs_stop ax az bx bz k1 k2 k3 k4 d
theorem or4_lt (a b c d : Nat) : a < 2 ^ ((a ||| b ||| c ||| d).log2 + 1) ∧ b < 2 ^ ((a ||| b ||| c ||| d).log2 + 1) ∧ c < 2 ^ ((a ||| b ||| c ||| d).log2 + 1) ∧ d < 2 ^ ((a ||| b ||| c ||| d).log2 + 1) := by
  have h : a ||| b ||| c ||| d < 2 ^ ((a ||| b ||| c ||| d).log2 + 1) := Nat.lt_log2_self
  have l1 : a ||| b ||| c ≤ a ||| b ||| c ||| d := Nat.left_le_or
  have l2 : a ||| b ≤ a ||| b ||| c := Nat.left_le_or
  have l3 : a ≤ a ||| b := Nat.left_le_or
  have l4 : b ≤ a ||| b := Nat.right_le_or
  have l5 : c ≤ a ||| b ||| c := Nat.right_le_or
  have l6 : d ≤ a ||| b ||| c ||| d := Nat.right_le_or
  refine ⟨?_, ?_, ?_, ?_⟩ <;> omega
theorem pmul_pow {a b : Nat × Nat × Nat} {L : Nat} (h1 : a.2.1 < 2 ^ L) (h2 : a.2.2 < 2 ^ L) (h3 : b.2.1 < 2 ^ L) (h4 : b.2.2 < 2 ^ L) : (pmul a b).1 = (a.1 + b.1 + phs a.2.1 a.2.2 b.2.1 b.2.2 L) % 4 := by
  obtain ⟨k1, k2, k3, k4⟩ := or4_lt a.2.1 a.2.2 b.2.1 b.2.2
  unfold pmul
  rw [phs_any _ _ _ _ k1 k2 k3 k4 h1 h2 h3 h4]
theorem pmul_pop {a b : Nat × Nat × Nat} : (((a.1 : Int) + (b.1 : Int) + ((pop (a.2.1 &&& a.2.2) : Int) + (pop (b.2.1 &&& b.2.2) : Int) - (pop ((a.2.1 ^^^ b.2.1) &&& (a.2.2 ^^^ b.2.2)) : Int)) + 2 * (pop (a.2.2 &&& b.2.1) : Int)) % 4) = ((pmul a b).1 : Int) := by
  obtain ⟨k1, k2, k3, k4⟩ := or4_lt a.2.1 a.2.2 b.2.1 b.2.2
  rw [pmul_pow k1 k2 k3 k4]
  generalize (a.2.1 ||| a.2.2 ||| b.2.1 ||| b.2.2).log2 + 1 = L at k1 k2 k3 k4
  have and_lt : ∀ {x y : Nat}, x < 2 ^ L → x &&& y < 2 ^ L := fun h => Nat.lt_of_le_of_lt Nat.and_le_left h
  rw [pop_cnt (and_lt k1), pop_cnt (and_lt k3), pop_cnt (and_lt (Nat.xor_lt_two_pow k1 k3)), pop_cnt (and_lt k2)]
  have h := phs_eq a.2.1 a.2.2 b.2.1 b.2.2 L
  push_cast
  omega
def pcom (a b : Nat × Nat × Nat) : Bool := decide (pop ((a.2.1 &&& b.2.2) ^^^ (a.2.2 &&& b.2.1)) % 2 = 0)
theorem pcom_odds {a b : Nat × Nat × Nat} {L : Nat} (h1 : a.2.1 < 2 ^ L) (h2 : a.2.2 < 2 ^ L) : odds a.2.1 a.2.2 b.2.1 b.2.2 L = pop ((a.2.1 &&& b.2.2) ^^^ (a.2.2 &&& b.2.1)) % 2 := by
  have and_lt : ∀ {x y : Nat}, x < 2 ^ L → x &&& y < 2 ^ L := fun h => Nat.lt_of_le_of_lt Nat.and_le_left h
  rw [odds_eq, pop_cnt (Nat.xor_lt_two_pow (and_lt h1) (and_lt h2))]
/-- both products are alike exactly if the operators commute -/
theorem ph_swap (one two : Nat) (h1 : one < 4) (h2 : two < 4) : ((ph one two : Int) - (ph two one : Int) - 2 * ((clash one two).toNat : Int)) % 4 = 0 := by
  have : ∀ one, one < 4 → ∀ two, two < 4 → ((ph one two : Int) - (ph two one : Int) - 2 * ((clash one two).toNat : Int)) % 4 = 0 := by decide
  exact this one h1 two h2
theorem phs_swap (ax az bx bz : Nat) : ∀ L, ((phs ax az bx bz L : Int) - (phs bx bz ax az L : Int) - 2 * (odds ax az bx bz L : Int)) % 4 = 0
  | 0 => rfl
  | L + 1 => by
    have ih := phs_swap ax az bx bz L
    have h := ph_swap (lx ax az L) (lx bx bz L) (lx_lt _ _ _) (lx_lt _ _ _)
    have ho : odds ax az bx bz L < 2 := by rw [odds_eq]; omega
    simp only [phs, odds]
    cases hc : clash (lx ax az L) (lx bx bz L) with
    | true =>
      rw [hc] at h
      simp only [if_true, Bool.toNat_true] at *
      push_cast
      omega
    | false =>
      rw [hc] at h
      simp only [Bool.false_eq_true, if_false, Bool.toNat_false] at *
      push_cast
      omega
theorem pcom_mul (a b : Nat × Nat × Nat) : pcom a b = decide (pmul a b = pmul b a) := by
  obtain ⟨k1, k2, k3, k4⟩ := or4_lt a.2.1 a.2.2 b.2.1 b.2.2
  have e1 := pmul_pow k1 k2 k3 k4
  have e2 := pmul_pow (a := b) (b := a) k3 k4 k1 k2
  have e3 := pcom_odds (b := b) k1 k2
  have h := phs_swap a.2.1 a.2.2 b.2.1 b.2.2 ((a.2.1 ||| a.2.2 ||| b.2.1 ||| b.2.2).log2 + 1)
  have e4 : (pmul a b).2 = (pmul b a).2 := by unfold pmul; rw [Nat.xor_comm a.2.1, Nat.xor_comm a.2.2]
  unfold pcom
  rw [← e3]
  refine decide_eq_decide.mpr ⟨fun h0 => ?_, fun h0 => ?_⟩
  · rw [h0] at h
    refine Prod.ext ?_ e4
    rw [e1, e2]
    omega
  · have h5 := congrArg Prod.fst h0
    rw [e1, e2] at h5
    have ho : odds a.2.1 a.2.2 b.2.1 b.2.2 ((a.2.1 ||| a.2.2 ||| b.2.1 ||| b.2.2).log2 + 1) < 2 := by rw [odds_eq]; omega
    omega
end Eng

set_option Elab.async false
set_option linter.all false
set_option maxRecDepth 100000
set_option maxHeartbeats 4000000
namespace Pf
open PySem PySem.Spec PyProof.Rows L2 Eng
open Evl (Ex)
def topS (i : Nat) : Stmt := PySem.Challenge.pw_bastion_k51_judges_of_joins.main.body.getD i (.Pass ⟨0, 0, 0, 0⟩)
abbrev s_weight : Stmt := topS 1
abbrev N_weight : List Str := ["mask"]
theorem nm_weight : N_weight[0]? = some ("mask" : Str) := rfl
theorem sc_weight : FnScope N_weight ["mask"] (defScope s_weight) := ⟨rfl, rfl, rfl, by decide +kernel, rfl, by decide +kernel, by decide +kernel⟩
abbrev s_parity : Stmt := topS 2
abbrev N_parity : List Str := ["mask"]
theorem nm_parity : N_parity[0]? = some ("mask" : Str) := rfl
theorem sc_parity : FnScope N_parity ["mask"] (defScope s_parity) := ⟨rfl, rfl, rfl, by decide +kernel, rfl, by decide +kernel, by decide +kernel⟩
abbrev s_mask_of : Stmt := topS 3
abbrev N_mask_of : List Str := ["numbers", "mask", "number"]
theorem nm_mask_of : N_mask_of[0]? = some ("numbers" : Str) ∧ N_mask_of[1]? = some ("mask" : Str) ∧ N_mask_of[2]? = some ("number" : Str) := ⟨rfl, rfl, rfl⟩
theorem sc_mask_of : FnScope N_mask_of ["numbers"] (defScope s_mask_of) := ⟨rfl, rfl, rfl, by decide +kernel, rfl, by decide +kernel, by decide +kernel⟩
abbrev s_times_left : Stmt := topS 5
abbrev N_times_left : List Str := ["cuts", "edge", "a", "b", "_", "mask"]
theorem nm_times_left : N_times_left[0]? = some ("cuts" : Str) ∧ N_times_left[1]? = some ("edge" : Str) ∧ N_times_left[2]? = some ("a" : Str) ∧ N_times_left[3]? = some ("b" : Str) ∧ N_times_left[4]? = some ("_" : Str) ∧ N_times_left[5]? = some ("mask" : Str) := ⟨rfl, rfl, rfl, rfl, rfl, rfl⟩
theorem sc_times_left : FnScope N_times_left ["cuts", "edge"] (defScope s_times_left) := ⟨rfl, rfl, rfl, by decide +kernel, rfl, by decide +kernel, by decide +kernel⟩
abbrev s_shows_least : Stmt := topS 6
abbrev N_shows_least : List Str := ["graph", "fired", "size", "cuts", "marked", "mask", "edge"]
theorem nm_shows_least : N_shows_least[0]? = some ("graph" : Str) ∧ N_shows_least[1]? = some ("fired" : Str) ∧ N_shows_least[2]? = some ("size" : Str) ∧ N_shows_least[3]? = some ("cuts" : Str) ∧ N_shows_least[4]? = some ("marked" : Str) ∧ N_shows_least[5]? = some ("mask" : Str) ∧ N_shows_least[6]? = some ("edge" : Str) := ⟨rfl, rfl, rfl, rfl, rfl, rfl, rfl⟩
theorem sc_shows_least : FnScope N_shows_least ["graph", "fired", "size", "cuts"] (defScope s_shows_least) := ⟨rfl, rfl, rfl, by decide +kernel, rfl, by decide +kernel, by decide +kernel⟩
abbrev s__law_cell : Stmt := topS 8
abbrev N__law_cell : List Str := ["script", "k"]
theorem nm__law_cell : N__law_cell[0]? = some ("script" : Str) ∧ N__law_cell[1]? = some ("k" : Str) := ⟨rfl, rfl⟩
theorem sc__law_cell : FnScope N__law_cell ["script", "k"] (defScope s__law_cell) := ⟨rfl, rfl, rfl, by decide +kernel, rfl, by decide +kernel, by decide +kernel⟩
abbrev s__law_numbers : Stmt := topS 9
abbrev N__law_numbers : List Str := ["script", "first", "most", "found", "at", "cell", "k", "mixed"]
theorem nm__law_numbers : N__law_numbers[0]? = some ("script" : Str) ∧ N__law_numbers[1]? = some ("first" : Str) ∧ N__law_numbers[2]? = some ("most" : Str) ∧ N__law_numbers[3]? = some ("found" : Str) ∧ N__law_numbers[4]? = some ("at" : Str) ∧ N__law_numbers[5]? = some ("cell" : Str) ∧ N__law_numbers[6]? = some ("k" : Str) ∧ N__law_numbers[7]? = some ("mixed" : Str) := ⟨rfl, rfl, rfl, rfl, rfl, rfl, rfl, rfl⟩
theorem sc__law_numbers : FnScope N__law_numbers ["script", "first", "most"] (defScope s__law_numbers) := ⟨rfl, rfl, rfl, by decide +kernel, rfl, by decide +kernel, by decide +kernel⟩
abbrev s__law_is_integer : Stmt := topS 10
abbrev N__law_is_integer : List Str := ["actual"]
theorem nm__law_is_integer : N__law_is_integer[0]? = some ("actual" : Str) := rfl
theorem sc__law_is_integer : FnScope N__law_is_integer ["actual"] (defScope s__law_is_integer) := ⟨rfl, rfl, rfl, by decide +kernel, rfl, by decide +kernel, by decide +kernel⟩
abbrev s__law_graph : Stmt := topS 11
abbrev N__law_graph : List Str := ["numbers", "nodes", "edges", "number", "a", "b", "edge"]
theorem nm__law_graph : N__law_graph[0]? = some ("numbers" : Str) ∧ N__law_graph[1]? = some ("nodes" : Str) ∧ N__law_graph[2]? = some ("edges" : Str) ∧ N__law_graph[3]? = some ("number" : Str) ∧ N__law_graph[4]? = some ("a" : Str) ∧ N__law_graph[5]? = some ("b" : Str) ∧ N__law_graph[6]? = some ("edge" : Str) := ⟨rfl, rfl, rfl, rfl, rfl, rfl, rfl⟩
theorem sc__law_graph : FnScope N__law_graph ["numbers", "nodes"] (defScope s__law_graph) := ⟨rfl, rfl, rfl, by decide +kernel, rfl, by decide +kernel, by decide +kernel⟩
abbrev s__law_odd : Stmt := topS 12
abbrev N__law_odd : List Str := ["graph", "edges", "many", "at", "node"]
theorem nm__law_odd : N__law_odd[0]? = some ("graph" : Str) ∧ N__law_odd[1]? = some ("edges" : Str) ∧ N__law_odd[2]? = some ("many" : Str) ∧ N__law_odd[3]? = some ("at" : Str) ∧ N__law_odd[4]? = some ("node" : Str) := ⟨rfl, rfl, rfl, rfl, rfl⟩
theorem sc__law_odd : FnScope N__law_odd ["graph", "edges"] (defScope s__law_odd) := ⟨rfl, rfl, rfl, by decide +kernel, rfl, by decide +kernel, by decide +kernel⟩
abbrev s__law_flip : Stmt := topS 13
abbrev N__law_flip : List Str := ["graph", "edges", "at"]
theorem nm__law_flip : N__law_flip[0]? = some ("graph" : Str) ∧ N__law_flip[1]? = some ("edges" : Str) ∧ N__law_flip[2]? = some ("at" : Str) := ⟨rfl, rfl, rfl⟩
theorem sc__law_flip : FnScope N__law_flip ["graph", "edges"] (defScope s__law_flip) := ⟨rfl, rfl, rfl, by decide +kernel, rfl, by decide +kernel, by decide +kernel⟩
abbrev s__law_leaves : Stmt := topS 14
abbrev N__law_leaves : List Str := ["graph", "at", "cut", "first"]
theorem nm__law_leaves : N__law_leaves[0]? = some ("graph" : Str) ∧ N__law_leaves[1]? = some ("at" : Str) ∧ N__law_leaves[2]? = some ("cut" : Str) ∧ N__law_leaves[3]? = some ("first" : Str) := ⟨rfl, rfl, rfl, rfl⟩
theorem sc__law_leaves : FnScope N__law_leaves ["graph", "at", "cut"] (defScope s__law_leaves) := ⟨rfl, rfl, rfl, by decide +kernel, rfl, by decide +kernel, by decide +kernel⟩
abbrev s__law_cuts_show : Stmt := topS 15
abbrev N__law_cuts_show : List Str := ["graph", "free", "fired", "size", "cuts", "cut", "at", "many", "node"]
theorem nm__law_cuts_show : N__law_cuts_show[0]? = some ("graph" : Str) ∧ N__law_cuts_show[1]? = some ("free" : Str) ∧ N__law_cuts_show[2]? = some ("fired" : Str) ∧ N__law_cuts_show[3]? = some ("size" : Str) ∧ N__law_cuts_show[4]? = some ("cuts" : Str) ∧ N__law_cuts_show[5]? = some ("cut" : Str) ∧ N__law_cuts_show[6]? = some ("at" : Str) ∧ N__law_cuts_show[7]? = some ("many" : Str) ∧ N__law_cuts_show[8]? = some ("node" : Str) := ⟨rfl, rfl, rfl, rfl, rfl, rfl, rfl, rfl, rfl⟩
theorem sc__law_cuts_show : FnScope N__law_cuts_show ["graph", "free", "fired", "size", "cuts"] (defScope s__law_cuts_show) := ⟨rfl, rfl, rfl, by decide +kernel, rfl, by decide +kernel, by decide +kernel⟩
abbrev s_law : Stmt := topS 16
abbrev N_law : List Str := ["script", "digit", "graph", "pick", "edges", "fired", "cell", "cuts", "k", "size", "given", "actual", "due", "at", "node"]
theorem nm_law : N_law[0]? = some ("script" : Str) ∧ N_law[1]? = some ("digit" : Str) ∧ N_law[2]? = some ("graph" : Str) ∧ N_law[3]? = some ("pick" : Str) ∧ N_law[4]? = some ("edges" : Str) ∧ N_law[5]? = some ("fired" : Str) ∧ N_law[6]? = some ("cell" : Str) ∧ N_law[7]? = some ("cuts" : Str) ∧ N_law[8]? = some ("k" : Str) ∧ N_law[9]? = some ("size" : Str) ∧ N_law[10]? = some ("given" : Str) ∧ N_law[11]? = some ("actual" : Str) ∧ N_law[12]? = some ("due" : Str) ∧ N_law[13]? = some ("at" : Str) ∧ N_law[14]? = some ("node" : Str) := ⟨rfl, rfl, rfl, rfl, rfl, rfl, rfl, rfl, rfl, rfl, rfl, rfl, rfl, rfl, rfl⟩
theorem sc_law : FnScope N_law ["script"] (defScope s_law) := ⟨rfl, rfl, rfl, by decide +kernel, rfl, by decide +kernel, by decide +kernel⟩

theorem int_go {i : Int} {P : Int → Prop} (p : P i) : ∃ k, PyData.int i = .int k ∧ P k := ⟨i, rfl, p⟩
theorem len_go {ds : List PyData} {P : Prop} (h : Nat.ble ds.length 100000 = true) (p : P) : ds.length ≤ 100000 ∧ P := ⟨Nat.le_of_ble_eq_true h, p⟩
theorem dats_go {as : List AV} {ds : List PyData} {P : List PyData → Prop} (h : dats as = some ds) (p : P ds) : ∃ ds, dats as = some ds ∧ P ds := ⟨ds, h, p⟩
theorem bool_go {b : Bool} {P : Bool → Prop} (p : P b) : ∃ k, PyData.bool b = .bool k ∧ P k := ⟨b, rfl, p⟩
theorem call_go {as : List AV} {n : Nat} {sp : DSpec} {Q : RV → Prop} (h : as.length = n) (p : sp as Q) : as.length = n ∧ sp as Q := ⟨h, p⟩
theorem tru_go {d : PyData} {b : Bool} {P : Bool → Prop} (h : truD d = some b) (p : P b) : ∃ k, truD d = some k ∧ P k := ⟨b, h, p⟩
theorem mul_r {i j : Int} (h : -(2 ^ 64) < j ∧ j < 2 ^ 64) : CMul i j := .inr h
theorem mul_l {i j : Int} (h : -(2 ^ 64) < i ∧ i < 2 ^ 64) : CMul i j := .inl h
theorem at_zero {α : Type} {xs : List α} {v : α} (h : xs[0]? = some v) : atI xs 0 = some v := atI_nat (j := 0) h
theorem ix_goT {ds : List PyData} {i : Int} {d : PyData} {Q : PyData → Prop} (h : atI ds i = some d) (q : Q d) : IxD (.tuple ds) (.int i) Q := ⟨d, h, q⟩
theorem ix_goL {ds : List PyData} {i : Int} {d : PyData} {Q : PyData → Prop} (h : atI ds i = some d) (q : Q d) : IxD (.list ds) (.int i) Q := ⟨d, h, q⟩
theorem wpr_cons {X : Cx} {c : Ct} {A : AS} {k v : Expr} {ks : List (Option Expr)} {vs : List Expr} {Q : List (Key × PyData) → Prop} (h : WE X c k A fun dk => ∃ ky : Key, dk = keyD ky ∧ WE X c v A fun dv => WPr X c ks vs A fun ps => Q ((ky, dv) :: ps)) : WPr X c (some k :: ks) (v :: vs) A Q := h
theorem wpr_nil {X : Cx} {c : Ct} {A : AS} {Q : List (Key × PyData) → Prop} (h : Q []) : WPr X c [] [] A Q := h
theorem key_goS {z : Str} {P : Key → Prop} (p : P (.inr z)) : ∃ ky, PyData.str z = keyD ky ∧ P ky := ⟨.inr z, rfl, p⟩
theorem len15_go {α : Type} {ds : List α} {P : Prop} (h : Nat.ble ds.length 15 = true) (p : P) : ds.length ≤ 15 ∧ P := ⟨Nat.le_of_ble_eq_true h, p⟩
-- a name
local macro_rules | `(tactic| walk_at "vis") => `(tactic| first | exact Or.inl rfl | exact Or.inr (Or.inl rfl) | exact Or.inr (Or.inr rfl))
local macro_rules | `(tactic| walk_at "name") => `(tactic| (refine' we_nm ?hN ?eN ?hr ?hv ?hd ?_; (case hN => with_reducible assumption); (case eN => rfl); (case hr => rfl); (case hv => walk_at "vis"); (case hd => exact ⟨by decide, by decide⟩)))
-- operators on data
local macro_rules | `(tactic| walk_at "op") => `(tactic| first
  | ((with_reducible show OpD _ _ (binaryOp .Add) _ _ _); refine od_add ?_)
  | ((with_reducible show OpD _ _ (binaryOp .Sub) _ _ _); refine od_sub ?_)
  | ((with_reducible show OpD _ _ (binaryOp .Mult) _ _ _); refine od_mul (by first | exact mul_r (by decide) | exact mul_l (by decide) | exact mul_r ⟨by omega, by omega⟩ | exact mul_l ⟨by omega, by omega⟩) ?_)
  | ((with_reducible show OpD _ _ (binaryOp .Mod) _ _ _); refine od_mod (by first | decide | omega) ?_)
  | ((with_reducible show OpD _ _ (binaryOp .BitAnd) (.int (Nat.cast _)) (.int (Nat.cast _)) _); refine od_andN ?_)
  | ((with_reducible show OpD _ _ (binaryOp .BitAnd) (.int (Nat.cast _)) (.int 1) _); refine od_and1 ?_)
  | ((with_reducible show OpD _ _ (binaryOp .BitOr) (.int (Nat.cast _)) (.int (Nat.cast _)) _); refine od_orN ?_)
  | ((with_reducible show OpD _ _ (binaryOp .BitXor) (.int (Nat.cast _)) (.int (Nat.cast _)) _); refine od_xorN ?_)
  | ((with_reducible show OpD _ _ (binaryOp .RShift) (.int (Nat.cast _)) (.int (Nat.cast _)) _); refine od_shrN ?_)
  | ((with_reducible show OpD _ _ (binaryOp .LShift) (.int 1) (.int (Nat.cast _)) _); refine od_shl1 (by omega) ?_)
  | ((with_reducible show OpD _ _ (inplaceOp .BitXor) (.int (Nat.cast _)) (.int (Nat.cast _)) _); refine od_ixorN ?_)
  | ((with_reducible show OpD _ _ (inplaceOp .Add) (.int _) (.int _) _); refine od_iadd ?_)
  | ((with_reducible show OpD _ _ (binaryOp .BitAnd) (.int (Nat.cast _)) (.int (-(Nat.cast _))) _); refine od_and ?_)
  | ((with_reducible show OpD _ _ (binaryOp .BitOr) _ _ _); refine od_or ?_)
  | ((with_reducible show OpD _ _ (binaryOp .BitXor) _ _ _); refine od_xor ?_)
  | ((with_reducible show OpD _ _ (binaryOp .RShift) _ _ _); refine od_shr (by first | decide | omega) ?_)
  | ((with_reducible show OpD _ _ (compareOp .Lt) _ _ _); refine od_lt ?_)
  | ((with_reducible show OpD _ _ (compareOp .LtE) _ _ _); refine od_le ?_)
  | ((with_reducible show OpD _ _ (compareOp .Gt) _ _ _); refine od_gt ?_)
  | ((with_reducible show OpD _ _ (compareOp .GtE) _ _ _); refine od_ge ?_)
  | ((with_reducible show OpD _ _ (compareOp .Eq) (.int _) (.int _) _); refine od_eqI ?_)
  | ((with_reducible show OpD _ _ (compareOp .NotEq) (.int _) (.int _) _); refine od_neI ?_)
  | ((with_reducible show OpD _ _ (compareOp .Eq) (.str _) (.str _) _); refine od_eqS ?_)
  | ((with_reducible show OpD _ _ (compareOp .NotEq) (.str _) (.str _) _); refine od_neS ?_)
  | ((with_reducible show OpD _ _ (compareOp .Eq) (.bool _) (.bool _) _); refine od_eqB ?_)
  | ((with_reducible show OpD _ _ (compareOp .NotEq) (.bool _) (.bool _) _); refine od_neB ?_)
  | ((with_reducible show OpD _ _ (compareOp .Is) _ .none _); refine od_isN ?_))
local macro_rules | `(tactic| walk_at "dbg") => `(tactic| exact ⟨by decide, by decide⟩)
local macro_rules | `(tactic| walk_at "loc") => `(tactic| first | exact Or.inl rfl | exact Or.inr rfl)
local macro_rules | `(tactic| walk_at "pool") => `(tactic| (refine' wa_pl ?hN ?eN ?hr ?hv ?hd ?hs ?_; (case hN => with_reducible assumption); (case eN => rfl); (case hr => rfl); (case hv => walk_at "vis"); (case hd => walk_at "dbg"); (case hs => rfl)))
-- statements
local macro_rules | `(tactic| walk_at "asg") => `(tactic| ((first | with_reducible refine' wb_cons (ws_as ?hN ?eN ?nd ?hx ?hf ?hs ?hw ?h1 ?_) | refine' wb_cons (ws_as ?hN ?eN ?nd ?hx ?hf ?hs ?hw ?h1 ?_)); (case hN => with_reducible assumption); (case eN => rfl); (case nd => assumption); (case hx => walk_at "loc"); (case hf => walk_at "loc"); (case hs => rfl); (case hw => rfl); (case h1 => rfl)))
local macro_rules | `(tactic| walk_at "asgL") => `(tactic| ((first | with_reducible refine' wb_cons (ws_asL ?hN ?eN ?nd ?hx ?hf ?hs ?hw ?h1 ?_) | refine' wb_cons (ws_asL ?hN ?eN ?nd ?hx ?hf ?hs ?hw ?h1 ?_)); (case hN => with_reducible assumption); (case eN => rfl); (case nd => assumption); (case hx => walk_at "loc"); (case hf => walk_at "loc"); (case hs => rfl); (case hw => rfl); (case h1 => rfl)))
local macro_rules | `(tactic| walk_at "aug") => `(tactic| ((first | with_reducible refine' wb_cons (ws_au ?hN ?eN ?nd ?hr ?hx ?hf ?_) | refine' wb_cons (ws_au ?hN ?eN ?nd ?hr ?hx ?hf ?_)); (case hN => with_reducible assumption); (case eN => rfl); (case nd => assumption); (case hr => rfl); (case hx => walk_at "loc"); (case hf => walk_at "loc")))
local macro_rules | `(tactic| walk_at "app") => `(tactic| ((first | with_reducible refine' wb_cons (ws_ap ?hN ?eN ?hr ?hm ?hz ?hv ?hd ?hb ?hw ?hl ?hs ?hp ?hsw ?_) | refine' wb_cons (ws_ap ?hN ?eN ?hr ?hm ?hz ?hv ?hd ?hb ?hw ?hl ?hs ?hp ?hsw ?_)); (case hN => with_reducible assumption); (case eN => rfl); (case hr => rfl); (case hm => rfl); (case hv => walk_at "vis"); (case hd => walk_at "dbg"); (case hb => rfl); (case hw => rfl); (case hl => rfl); (case hs => rfl); (case hp => rfl); (case hsw => rfl)))
local macro_rules | `(tactic| walk_at "tgt") => `(tactic| ((first | with_reducible refine' wg_nm ?hN ?eN ?nd ?hx ?hf ?_ | refine' wg_nm ?hN ?eN ?nd ?hx ?hf ?_); (case hN => with_reducible assumption); (case eN => rfl); (case nd => assumption); (case hx => walk_at "loc"); (case hf => walk_at "loc")))
local macro_rules | `(tactic| walk_at "ret") => `(tactic| refine wb_cons (ws_ret ?_))
local macro_rules | `(tactic| walk_at "retO") => `(tactic| ((first | with_reducible refine' wb_cons (ws_rO ?hN ?eN ?hr ?hm ?hv ?hd ?_) | refine' wb_cons (ws_rO ?hN ?eN ?hr ?hm ?hv ?hd ?_)); (case hN => with_reducible assumption); (case eN => rfl); (case hr => rfl); (case hm => rfl); (case hv => walk_at "vis"); (case hd => walk_at "dbg")))
local macro_rules | `(tactic| walk_at "lenO") => `(tactic| (refine' we_lO (by assumption) ?hN ?eN ?hr ?hm ?hv ?hd ?hg ?he ?hp ?_; (case hN => with_reducible assumption); (case eN => rfl); (case hr => rfl); (case hm => rfl); (case hv => walk_at "vis"); (case hd => walk_at "dbg"); (case hg => rfl); (case he => rfl); (case hp => rfl)))
local macro_rules | `(tactic| walk_at "setO") => `(tactic| ((first | with_reducible refine' wb_cons (ws_sO ?hN ?eN ?hr ?hm ?hv ?hd ?ha ?hs ?hw ?h1 ?_) | refine' wb_cons (ws_sO ?hN ?eN ?hr ?hm ?hv ?hd ?ha ?hs ?hw ?h1 ?_)); (case hN => with_reducible assumption); (case eN => rfl); (case hr => rfl); (case hm => rfl); (case hv => walk_at "vis"); (case hd => walk_at "dbg"); (case ha => exact fun _ => rfl); (case hs => rfl); (case hw => rfl); (case h1 => rfl)))
local macro_rules | `(tactic| walk_at "mkpool") => `(tactic| (refine' ws_pool ?hN ?eN ?nd ?hx ?hf ?hs ?hw ?h1 ?hpa ?hfx ?hm ?hb ?hc ?_; (case hN => with_reducible assumption); (case eN => rfl); (case nd => assumption); (case hx => walk_at "loc"); (case hf => walk_at "loc"); (case hs => rfl); (case hw => rfl); (case h1 => rfl); (case hpa => assumption); (case hfx => assumption); (case hm => rfl); (case hb => exact fun _ h => h); (case hc => exact fun _ h => h)))
local macro_rules | `(tactic| walk_at "call") => `(tactic| (refine' we_cl ?C ?he ?hr ?hg ?hd ?hs ?hp ?_; (case C => with_reducible assumption); (case he => exact ⟨rfl, rfl, rfl, rfl, rfl⟩); (case hr => exact Room.mono (by assumption) (by omega)); (case hg => rfl); (case hd => decide); (case hs => rfl); (case hp => rfl)))
local macro_rules | `(tactic| walk_at "callL") => `(tactic| (refine' wl_cl ?C ?he ?hr ?hg ?hd ?hs ?hp ?_; (case C => with_reducible assumption); (case he => exact ⟨rfl, rfl, rfl, rfl, rfl⟩); (case hr => exact Room.mono (by assumption) (by omega)); (case hg => rfl); (case hd => decide); (case hs => rfl); (case hp => rfl)))
local macro_rules | `(tactic| walk_at "glob") => `(tactic| (refine' we_gl ?g ?he ?hg ?hd ?_; (case g => with_reducible assumption); (case he => exact ⟨rfl, rfl⟩); (case hg => rfl); (case hd => decide)))
local macro_rules | `(tactic| walk_at "pop") => `(tactic| ((first | with_reducible refine' wb_cons (ws_pop ?hN ?eN ?hr ?hm ?hz ?hv ?hd ?hb ?hl ?hsw ?_) | refine' wb_cons (ws_pop ?hN ?eN ?hr ?hm ?hz ?hv ?hd ?hb ?hl ?hsw ?_)); (case hN => with_reducible assumption); (case eN => rfl); (case hr => rfl); (case hm => rfl); (case hv => walk_at "vis"); (case hd => walk_at "dbg"); (case hb => rfl); (case hl => rfl); (case hsw => rfl)))
local macro_rules | `(tactic| walk_at "ixO") => `(tactic| (refine' we_iO ?hN ?eN ?hr ?hm ?hv ?hd ?hp ?_; (case hN => with_reducible assumption); (case eN => rfl); (case hr => rfl); (case hm => rfl); (case hv => walk_at "vis"); (case hd => walk_at "dbg"); (case hp => exact fun _ _ => rfl)))
local macro_rules | `(tactic| walk_at "kd") => `(tactic| (refine' we_kd ?g ?he ?hg ?hd ?_; (case g => with_reducible assumption); (case he => exact ⟨rfl, rfl, rfl⟩); (case hg => rfl); (case hd => decide)))
local macro_rules | `(tactic| walk_at "ext") => `(tactic| ((first | with_reducible refine' wb_cons (ws_ext ?hN ?eN ?hr ?hm ?hv ?hd ?hb ?hw ?hl ?hs ?hp ?hsw ?_) | refine' wb_cons (ws_ext ?hN ?eN ?hr ?hm ?hv ?hd ?hb ?hw ?hl ?hs ?hp ?hsw ?_)); (case hN => with_reducible assumption); (case eN => rfl); (case hr => rfl); (case hm => rfl); (case hv => walk_at "vis"); (case hd => walk_at "dbg"); (case hb => rfl); (case hw => rfl); (case hl => rfl); (case hs => rfl); (case hp => rfl); (case hsw => rfl)))
local macro_rules | `(tactic| walk_at "dix") => `(tactic| ((with_reducible refine' we_dix ?a1 ?a2 ?a3 ?a4 ?a5 ?a6 ?a7); (case a3 => rfl); (case a4 => rfl); (case a5 => exact fun z => nomatch z); (case a6 => decide); (case a7 => exact fun _ _ => rfl); (case a1 => exact (Nat.lt_of_le_of_lt (Nat.add_le_add_left (by decide) _) (Room.units (by assumption))))))
-- one step of an expression
local macro_rules | `(tactic| walk_at "e") => `(tactic| first
  | ((with_reducible show WE _ _ (.Name _ _) _ _); first | walk_at "name" | walk_at "glob")
  | ((with_reducible show WE _ _ (.Constant (.int _) _ _) _ _); refine we_int ?_)
  | ((with_reducible show WE _ _ (.BinOp _ _ _ _) _ _); refine we_bin ?_)
  | ((with_reducible show OpD _ _ _ _ _ _); walk_at "op")
  | ((with_reducible show WA _ _ (.Name _ _ :: _) _ _); walk_at "pool")
  | ((with_reducible show WA _ _ (_ :: _) _ _); refine wa_cons ?_)
  | ((with_reducible show WA _ _ [] _ _); refine wa_nil ?_)
  | ((with_reducible show WE _ _ (.Compare _ _ _ _) _ _); refine we_cmp ?_)
  | ((with_reducible show WT _ _ (.Compare _ [.LtE, .Lt] _ _) _ _); refine wt_leLt ?_)
  | ((with_reducible show WT _ _ (.Compare _ _ _ _) _ _); refine wt_cmp ?_)
  | ((with_reducible show OpD _ _ (compareOp .In) (.int _) (.tuple [.int _, .int _]) _); refine od_in2 ?_)
  | ((with_reducible show ∃ k, PyData.bool _ = .bool k ∧ _); refine bool_go ?_)
  | ((with_reducible show ∃ ds, dats _ = some ds ∧ _); refine dats_go rfl ?_)
  | ((with_reducible show WT _ _ (.BoolOp .And [_] _) _ _); refine wt_ww (ww_and1 ?_))
  | ((with_reducible show WB _ _ [] _ _); refine wb_nil ?_)
  | ((with_reducible show WE _ _ (.Call (.Attribute _ "bit_length" _) _ _ _) _ _); refine we_bl ?_ rfl rfl)
  | ((with_reducible show ∃ i, PyData.int _ = .int i ∧ _); refine int_go ?_)
  | ((with_reducible show (_ = true → _) ∧ (_ = false → _)); first | refine no_go ?_ | refine yes_go ?_)
  | ((with_reducible show WT _ _ (.BoolOp .Or (_ :: _ :: _) _) _ _); refine wt_ww (ww_or ?_))
  | ((with_reducible show WT _ _ (.BoolOp .And (_ :: _ :: _) _) _ _); refine wt_ww (ww_and ?_))
  | ((with_reducible show WW _ _ (.BoolOp .Or (_ :: _ :: _) _) _ _); refine ww_or ?_)
  | ((with_reducible show WW _ _ (.BoolOp .And (_ :: _ :: _) _) _ _); refine ww_and ?_)
  | ((with_reducible show WW _ _ (.BoolOp .Or [_] _) _ _); refine ww_or1 ?_)
  | ((with_reducible show WW _ _ (.BoolOp .And [_] _) _ _); refine ww_and1 ?_)
  | ((with_reducible show WE _ _ (.BoolOp .Or (_ :: _ :: _) _) _ _); refine we_or ?_)
  | ((with_reducible show WE _ _ (.BoolOp .And (_ :: _ :: _) _) _ _); refine we_and ?_)
  | ((with_reducible show WE _ _ (.BoolOp _ [_] _) _ _); refine we_and1 ?_)
  | ((with_reducible show WT _ _ (.UnaryOp .Not _ _) _ _); refine wt_not ?_)
  | ((with_reducible show WE _ _ (.UnaryOp .Not _ _) _ _); refine we_not ?_)
  | ((with_reducible show WE _ _ (.IfExp _ _ _ _) _ _); refine we_ife ?_)
  | ((with_reducible show WE _ _ (.Call (.Name "isinstance" _) _ _ _) _ _); (refine we_isi (by assumption) (by assumption) ?_ (by decide +kernel) rfl (by decide) (by decide) rfl rfl rfl rfl (by decide +kernel)))
  | ((with_reducible show IsiD _ "tuple" _); refine isi_tup rfl ?_)
  | ((with_reducible show IsiD _ "list" _); refine isi_lst rfl ?_)
  | ((with_reducible show IsiD _ "bool" _); refine isi_boo rfl ?_)
  | ((with_reducible show IsiD _ "str" _); refine isi_str rfl ?_)
  | ((with_reducible show IsiD _ "int" _); refine isi_int rfl ?_)
  | ((with_reducible show ∃ k, truD _ = some k ∧ _); refine tru_go rfl ?_)
  | ((with_reducible show WT _ _ (.Call _ _ _ _) _ _); refine wt_val ?_)
  | ((with_reducible show WT _ _ (.Name _ _) _ _); refine wt_val ?_)
  | ((with_reducible show WT _ _ (.BinOp _ _ _ _) _ _); refine wt_val ?_)
  | ((with_reducible show ∃ j d, PyData.int _ = .int j ∧ _); refine ixo_go rfl ?_)
  | ((with_reducible show IxD (.tuple (_ :: _)) (.int 0) _); refine ix_goT (at_zero rfl) ?_)
  | ((with_reducible show IxD (.tuple (_ :: _ :: _)) (.int 1) _); refine ix_goT (atI_nat (j := 1) rfl) ?_)
  | ((with_reducible show IxD (.tuple (_ :: _ :: _ :: _)) (.int 2) _); refine ix_goT (atI_nat (j := 2) rfl) ?_)
  | ((with_reducible show WE _ _ (.Constant (.str _) _ _) _ _); refine we_str ?_)
  | ((with_reducible show WE _ _ (.Constant (.bool _) _ _) _ _); refine we_bool ?_)
  | ((with_reducible show WE _ _ (.Constant .none _ _) _ _); refine we_none ?_)
  | ((with_reducible show WE _ _ (.UnaryOp .USub _ _) _ _); refine we_un ?_)
  | ((with_reducible show UnD _ _ _ _ _); refine ud_neg ?_)
  | ((with_reducible show CalD _ _ (.type "int") [.int _] _); refine cd_int ?_)
  | ((with_reducible show CalD _ _ (.builtin "len") [.list _] _); refine cd_lenL ?_)
  | ((with_reducible show CalD _ _ (.builtin "len") [.tuple _] _); refine cd_lenT ?_)
  | ((with_reducible show WE _ _ (.List _ _) _ _); first | with_reducible refine we_of_wl (wl_lst ?_) | refine we_of_wl (wl_lst ?_))
  | ((with_reducible show WPr _ _ (some _ :: _) (_ :: _) _ _); refine wpr_cons ?_)
  | ((with_reducible show WPr _ _ [] [] _ _); refine wpr_nil ?_)
  | ((with_reducible show ∃ ky : Key, PyData.str _ = keyD ky ∧ _); refine key_goS ?_)
  | ((with_reducible show List.length _ ≤ 15 ∧ _); refine len15_go rfl ?_)
  | ((with_reducible show WE _ _ (.Subscript (.Dict _ _ _) _ _) _ _); walk_at "dix")
  | ((with_reducible show WE _ _ (.Subscript (.Name _ _) _ _) _ _); walk_at "ixO")
  | ((with_reducible show WE _ _ (.Subscript (.Name _ _) _ _) _ _); walk_at "kd")
  | ((with_reducible show WE _ _ (.Subscript _ _ _) _ _); refine we_ix ?_)
  | ((with_reducible show WE _ _ (.Tuple _ _ _) _ _); refine we_tup ?_)
  | ((with_reducible show WE _ _ (.Call (.Name "int" _) _ _ _) _ _); refine we_ty (T := "int") (by assumption) ?_)
  | ((with_reducible show WE _ _ (.Call (.Name "len" _) [.Name _ _] _ _) _ _); walk_at "lenO")
  | ((with_reducible show WE _ _ (.Call (.Name "len" _) _ _ _) _ _); refine we_blt (id := "len") (by assumption) ?_)
  | ((with_reducible show WE _ _ (.Call (.Name _ _) (_ :: _) [] _) _ _); walk_at "call")
  | ((with_reducible show List.length _ = _ ∧ _); refine call_go rfl ?_)
  | ((with_reducible show WG _ _ (.Tuple _ _ _) (.tuple _) _ _); refine wg_tup ?_)
  | ((with_reducible show WGs _ _ (_ :: _) (_ :: _) _ _); refine wgs_cons ?_)
  | ((with_reducible show WGs _ _ [] [] _ _); refine wgs_nil ?_)
  | ((with_reducible show WG _ _ (.Name _ _) _ _ _); walk_at "tgt")
  | ((with_reducible show List.length _ ≤ 100000 ∧ _); refine len_go rfl ?_))
local macro_rules | `(tactic| walk_at "es") => `(tactic| repeat walk_at "e")
section
variable {P : Program} {w : World} {K : PySem.W.Frag} {mg : Str → Option Value} {base : Heap}
inductive DepLe : Nat → PyData → Prop
  | non (n : Nat) : DepLe n .none
  | bool (n : Nat) (b : Bool) : DepLe n (.bool b)
  | int (n : Nat) (b : Int) : DepLe n (.int b)
  | str (n : Nat) (b : Str) : DepLe n (.str b)
  | list (n : Nat) (ds : List PyData) (h : ∀ d ∈ ds, DepLe n d) (hl : ds.length ≤ 1000000) : DepLe (n + 1) (.list ds)
  | tuple (n : Nat) (ds : List PyData) (h : ∀ d ∈ ds, DepLe n d) (hl : ds.length ≤ 1000000) : DepLe (n + 1) (.tuple ds)
def okMany (m : Int) : Prop := 0 < m ∧ m.natAbs.log2 < 9000
/-! ### the law's own reader of cells -/
def spCell : DSpec := fun as Q => ∃ (ns : List Int) (k : Nat), as = [.dat (.list (ns.map .int)), .dat (.int (k : Int))] ∧ ∀ v : Int, Q (.D (.int v))
theorem ok_cell {f : Addr} {fd : FuncData} (F : Fun K "_law_cell" "_law_cell" s__law_cell f fd) (mle : mg "len" = none) : FnOk P w K mg base CX0 1 f fd ["script", "k"] (lift K 2 spCell) := by
  refine def_ok F sc__law_cell rfl (fun cdv A outer s H E c as R hr hl hs => ?_)
  obtain ⟨ns, k, rfl, q⟩ := hs
  obtain ⟨n0, n1⟩ := nm__law_cell
  have nd := sc__law_cell.nd
  refine wb_cons (ws_if ?_)
  walk_at "es"
  rw [List.length_map]
  refine ⟨fun h => ?_, fun h => ?_⟩
  · have h := of_decide_eq_true h
    obtain ⟨n, hn⟩ := at_ints (ns := ns) (i := (k : Int)) (by omega) h
    walk_at "ret"
    walk_at "es"
    refine ix_goL hn ?_
    exact q n
  · walk_at "es"
    walk_at "ret"
    walk_at "es"
    exact q 0
def spIsInt : DSpec := fun as Q => ∃ i : Int, as = [.dat (.int i)] ∧ Q (.D (.bool true))
theorem ok_isint {f : Addr} {fd : FuncData} (F : Fun K "_law_is_integer" "_law_is_integer" s__law_is_integer f fd) (mis : mg "isinstance" = none) (min : mg "int" = none) (mbo : mg "bool" = none) : FnOk P w K mg base CX0 1 f fd ["actual"] (lift K 1 spIsInt) := by
  refine def_ok F sc__law_is_integer rfl (fun cdv A outer s H E c as R hr hl hs => ?_)
  obtain ⟨i, rfl, q⟩ := hs
  have n0 := nm__law_is_integer
  have nd := sc__law_is_integer.nd
  walk_at "ret"
  walk_at "es"
  exact q
theorem abs_cast (i : Int) : (if i < 0 then -i else i) = ((i.natAbs : Nat) : Int) := by split <;> omega
end
section
variable {P : Program} {w : World} {K : PySem.W.Frag} {mg : Str → Option Value} {base : Heap}
def Sm (n : Nat) : Prop := n < 2 ^ 100000
def ni (k : Nat) : PyData := .int (k : Int)
theorem bit_test (n k : Nat) : decide (((n / 2 ^ k % 2 : Nat) : Int) = 1) = n.testBit k := by
  rw [Nat.testBit_eq_decide_div_mod_eq]
  by_cases h : n / 2 ^ k % 2 = 1
  · rw [decide_eq_true h, h]; rfl
  · rw [decide_eq_false h]
    exact decide_eq_false (by omega)
theorem ok_many (m : Nat) (h0 : 0 < m) (h : m < 2 ^ 8000) : okMany (m : Int) := ⟨by omega, by
  rw [Int.natAbs_natCast]
  exact Nat.lt_of_lt_of_le ((Nat.log2_lt (by omega)).mpr h) (by decide)⟩
theorem ok_small (m : Nat) (h0 : 0 < m) (h : m ≤ 100000) : okMany (m : Int) := ok_many m h0 (Nat.lt_of_le_of_lt h (Nat.lt_of_lt_of_le (show 100000 < 2 ^ 20 by decide) (Nat.pow_le_pow_right (by decide) (by decide))))
theorem ok_pow (w : Nat) (h : w < 8000) : okMany ((2 ^ w : Nat) : Int) := ok_many _ (Nat.pow_pos (by decide)) (Nat.pow_lt_pow_right (by decide) h)
theorem at_tup {ds : List PyData} {v : Int} (h0 : 0 ≤ v) (h1 : v < ds.length) : ∃ d, d ∈ ds ∧ atI ds v = some d := by
  obtain ⟨k, rfl⟩ := Int.eq_ofNat_of_zero_le h0
  have hk : k < ds.length := by omega
  exact ⟨ds[k], List.getElem_mem hk, atI_nat (List.getElem?_eq_getElem hk)⟩
theorem nat_of {v : Int} (h : 0 ≤ v) : ∃ n : Nat, v = (n : Int) := Int.eq_ofNat_of_zero_le h
theorem ix_goS {z : Str} {i : Int} {k : Nat} {Q : PyData → Prop} (hz : z.length ≤ 100000) (h : atI z.cps.toList i = some k) (q : Q (.str (mk [k]))) : IxD (.str z) (.int i) Q := ⟨k, hz, h, q⟩
def spNums : DSpec := fun as Q => ∃ (ns : List Int) (a m : Nat), as = [.dat (.list (ns.map .int)), .dat (.int (a : Int)), .dat (.int (m : Int))] ∧ ns.length ≤ 63 ∧ a ≤ 100 ∧ m ≤ 100 ∧ ∀ l : List Nat, (∀ n ∈ l, n < 4096) → l.length ≤ m → Q (.L (l.map ni))
theorem ok_nums {f : Addr} {fd : FuncData} (F : Fun K "_law_numbers" "_law_numbers" s__law_numbers f fd) (mra : mg "range" = none) (mle : mg "len" = none) (mab : mg "abs" = none) (min : mg "int" = none) : FnOk P w K mg base CX0 1 f fd ["script", "first", "most"] (lift K 3 spNums) := by
  refine def_ok F sc__law_numbers rfl (fun cdv A outer s H E c as R hr hl hs => ?_)
  obtain ⟨ns, a, m, rfl, hns, ha, hm, q⟩ := hs
  obtain ⟨n0, n1, n2, n3, n4, n5, n6, n7⟩ := nm__law_numbers
  have nd := sc__law_numbers.nd
  walk_at "asgL"
  refine wl_lst ?_
  walk_at "es"
  refine wb_cons (ws_forY (I := fun _ A => ∃ (l : List Nat) (y4 y5 y6 y7 : SV), A = ⟨[.dat (.list (ns.map .int)), .dat (.int (a : Int)), .dat (.int (m : Int)), .own 0, y4, y5, y6, y7], [some (l.map ni)]⟩ ∧ (∀ n ∈ l, n < 4096) ∧ l.length ≤ m) (wiy_of (wi_rng2 mra ?_)) PassesOwn.never)
  walk_at "es"
  refine ⟨a, rfl, by omega, ?_⟩
  walk_at "es"
  rw [List.length_map]
  refine ⟨ns.length, rfl, by omega, ⟨[], _, _, _, _, rfl, fun n hn => (by cases hn), Nat.zero_le _⟩, fun i x A' hx hA => ?_, fun A' hA => ?_⟩
  · obtain ⟨l, y4, y5, y6, y7, rfl, hl1, hl2⟩ := hA
    obtain ⟨hi, rfl⟩ := rngF_inv hx
    obtain ⟨v, hv⟩ := at_ints (ns := ns) (i := ((a + i : Nat) : Int)) (by omega) (by omega)
    walk_at "tgt"
    with_reducible refine wb_gen (P := fun A => ∃ (l : List Nat) (y4 y5 y6 y7 : SV), A = ⟨[.dat (.list (ns.map .int)), .dat (.int (a : Int)), .dat (.int (m : Int)), .own 0, y4, y5, y6, y7], [some (l.map ni)]⟩ ∧ (∀ n ∈ l, n < 4096) ∧ l.length ≤ m) (fun D' hD => ?_) (fun _ h => h)
    have hz : ∀ l : List Nat, l.length ≤ m → (l.map ni).length < 100000 := fun l h => by rw [List.length_map]; omega
    have hone : ∀ (l : List Nat) (t : Nat), (∀ n ∈ l, n < 4096) → t < 4096 → ∀ n ∈ l ++ [t], n < 4096 := fun l t h1 h2 n hn => by
      rcases List.mem_append.mp hn with hn | hn
      · exact h1 n hn
      · rw [List.mem_singleton.mp hn]; exact h2
    have hmod : ∀ z : Int, ∃ t : Nat, z % 4096 = (t : Int) ∧ t < 4096 := fun z => ⟨(z % 4096).toNat, by omega, by omega⟩
    walk_at "asg"
    refine we_blt (id := "abs") mab ?_
    walk_at "es"
    refine ix_goL hv ?_
    walk_at "es"
    refine cd_abs ?_
    rw [abs_cast]
    generalize v.natAbs = ce
    refine wb_cons (ws_if ?_)
    walk_at "es"
    refine ⟨fun _ => ?_, fun _ => ?_⟩
    · refine wb_cons (ws_forR1 (I := fun _ A => ∃ (l : List Nat) (ce : Nat) (y6 : SV), A = ⟨[.dat (.list (ns.map .int)), .dat (.int (a : Int)), .dat (.int (m : Int)), .own 0, .dat (.int ((a + i : Nat) : Int)), .dat (.int (ce : Int)), y6, y7], [some (l.map ni)]⟩ ∧ (∀ n ∈ l, n < 4096) ∧ l.length ≤ m) mra ?_ PassesOwn.never)
      walk_at "es"
      refine ⟨by omega, by omega, ⟨l, ce, _, rfl, hl1, hl2⟩, fun k A' hk hA => ?_, fun A' hA => ?_⟩
      · obtain ⟨l, ce, y6, rfl, hl1, hl2⟩ := hA
        walk_at "tgt"
        with_reducible refine wb_gen (P := fun A => ∃ (l : List Nat) (ce : Nat) (y6 : SV), A = ⟨[.dat (.list (ns.map .int)), .dat (.int (a : Int)), .dat (.int (m : Int)), .own 0, .dat (.int ((a + i : Nat) : Int)), .dat (.int (ce : Int)), y6, y7], [some (l.map ni)]⟩ ∧ (∀ n ∈ l, n < 4096) ∧ l.length ≤ m) (fun D2 hD2 => ?_) (fun _ h => h)
        refine wb_cons (ws_if ?_)
        walk_at "es"
        refine ⟨fun _ => ?_, fun _ => ?_⟩
        · walk_at "es"
          rw [List.length_map]
          refine ⟨fun h => ?_, fun _ => ?_⟩
          · have h := of_decide_eq_true h
            obtain ⟨t, ht, ht2⟩ := hmod ce
            walk_at "app"
            case hz => exact hz l hl2
            walk_at "es"
            rw [ht]
            walk_at "asg"
            walk_at "es"
            refine od_div (by decide) ?_
            rw [show (ce : Int) / 4096 = ((ce / 4096 : Nat) : Int) by push_cast; rfl]
            walk_at "es"
            exact hD2 _ ⟨l ++ [t], ce / 4096, _, by rw [List.map_append]; rfl, hone l t hl1 ht2, by rw [List.length_append]; show l.length + 1 ≤ m; omega⟩
          · walk_at "es"
            exact hD2 _ ⟨l, ce, _, rfl, hl1, hl2⟩
        · walk_at "es"
          exact hD2 _ ⟨l, ce, _, rfl, hl1, hl2⟩
      · obtain ⟨l, ce, y6, rfl, hl1, hl2⟩ := hA
        exact wb_nil (wb_nil (hD _ ⟨l, _, _, _, _, rfl, hl1, hl2⟩))
    · refine wb_cons (ws_if ?_)
      walk_at "es"
      rw [List.length_map]
      refine ⟨fun h => ?_, fun _ => ?_⟩
      · have h := of_decide_eq_true h
        walk_at "asg"
        walk_at "es"
        walk_at "asg"
        walk_at "es"
        refine od_div (by decide) ?_
        walk_at "es"
        walk_at "app"
        case hz => exact hz l hl2
        walk_at "es"
        obtain ⟨t, ht, ht2⟩ := hmod (((((ce : Int) * 48271 + ((a + i : Nat) : Int) * 69621 + 12345) % 2147483647) * 69621 + (((ce : Int) * 48271 + ((a + i : Nat) : Int) * 69621 + 12345) % 2147483647) / 1009) % 1000003)
        rw [ht]
        exact hD _ ⟨l ++ [t], _, _, _, _, by rw [List.map_append]; rfl, hone l t hl1 ht2, by rw [List.length_append]; show l.length + 1 ≤ m; omega⟩
      · walk_at "es"
        exact hD _ ⟨l, _, _, _, _, rfl, hl1, hl2⟩
  · obtain ⟨l, y4, y5, y6, y7, rfl, hl1, hl2⟩ := hA
    walk_at "retO"
    exact q l hl1 hl2
def spMaskL : DSpec := fun as Q => ∃ ks : List Nat, as = [.dat (.list (ks.map ni))] ∧ (∀ k ∈ ks, k ≤ 100000) ∧ Q (.D (.int (maskOf ks : Nat)))
theorem ok_maskL {f : Addr} {fd : FuncData} (F : Fun K "mask_of" "mask_of" s_mask_of f fd) : FnOk P w K mg base CX0 1 f fd ["numbers"] (lift K 1 spMaskL) := by
  refine def_ok F sc_mask_of rfl (fun cdv A outer s H E c as R hr hl hs => ?_)
  obtain ⟨ks, rfl, hk, q⟩ := hs
  obtain ⟨n0, n1, n2⟩ := nm_mask_of
  have nd := sc_mask_of.nd
  walk_at "asg"
  walk_at "es"
  refine wb_cons (ws_forL (I := fun i A => ∃ (y : SV), A = ⟨[.dat (.list (ks.map ni)), .dat (.int (maskOf (ks.take i) : Nat)), y], []⟩) ?_ PassesOwn.never)
  walk_at "es"
  refine ⟨_, rfl, ⟨_, rfl⟩, fun i x A' hx hA => ?_, fun A' hA => ?_⟩
  · obtain ⟨y, rfl⟩ := hA
    rw [List.getElem?_map] at hx
    cases hki : ks[i]? with
    | none => rw [hki] at hx; cases hx
    | some k =>
      rw [hki] at hx
      have ex : ni k = x := Option.some.inj hx
      subst ex
      have hkk := hk k (List.mem_of_getElem? hki)
      unfold ni
      walk_at "tgt"
      walk_at "aug"
      walk_at "es"
      refine ⟨.dat (.int (k : Int)), ?_⟩
      rw [List.take_add_one, hki]
      unfold maskOf
      rw [List.foldl_append]
      rfl
  · obtain ⟨y, rfl⟩ := hA
    walk_at "ret"
    walk_at "es"
    rw [List.length_map, List.take_length]
    exact q
theorem room65 {k : Nat} {A : Around} (r : Room k A) : A.units + 65 < cLine := by have := r.un; omega
theorem min_cast (i j : Nat) : (if ((j : Nat) : Int) < (i : Int) then (j : Int) else (i : Int)) = ((min i j : Nat) : Int) := by
  split
  · rw [Nat.min_eq_right (by omega)]
  · rw [Nat.min_eq_left (by omega)]
theorem max_cast (i j : Nat) : (if ((j : Nat) : Int) > (i : Int) then (j : Int) else (i : Int)) = ((max i j : Nat) : Int) := by
  split
  · rw [Nat.max_eq_right (by omega)]
  · rw [Nat.max_eq_left (by omega)]
theorem nis_get {B : List Nat} {i : Nat} {x : PyData} (h : (B.map ni)[i]? = some x) : ∃ b, B[i]? = some b ∧ x = .int (b : Int) := by
  rw [List.getElem?_map] at h
  cases hb : B[i]? with
  | none => rw [hb] at h; cases h
  | some b => rw [hb] at h; exact ⟨b, rfl, (Option.some.inj h).symm⟩
theorem nis_at {B : List Nat} {i b : Nat} (h : B[i]? = some b) : (B.map ni)[i]? = some (.int (b : Int)) := by rw [List.getElem?_map, h]; rfl
theorem ni_ints (B : List Nat) : B.map ni = (B.map fun (b : Nat) => (b : Int)).map PyData.int := by rw [List.map_map]; rfl
/-! ### graphs -/
abbrev Edg := Nat × Nat × Nat
def eI (e : Edg) : List Int := [(e.1 : Int), (e.2.1 : Int), (e.2.2 : Int)]
def eD (e : Edg) : PyData := .tuple [.int (e.1 : Int), .int (e.2.1 : Int), .int (e.2.2 : Int)]
theorem eD_tI (e : Edg) : eD e = tI (eI e) := rfl
def grD (n : Nat) (E : List Edg) : PyData := .tuple [.int (n : Int), .tuple (E.map eD)]
def EOk (n : Nat) (e : Edg) : Prop := e.1 < e.2.1 ∧ e.2.1 ≤ n ∧ e.2.2 < 2
theorem shp_e (e : Edg) : Shp 1 (eD e) := shp_tup fun d hd => by
  have hd : d ∈ [PyData.int (e.1 : Int), .int (e.2.1 : Int), .int (e.2.2 : Int)] := hd
  rcases List.mem_cons.mp hd with rfl | hd
  · exact shp_int 0 _
  rcases List.mem_cons.mp hd with rfl | hd
  · exact shp_int 0 _
  rcases List.mem_cons.mp hd with rfl | hd
  · exact shp_int 0 _
  cases hd
theorem shp_es (E : List Edg) : Shp 2 (.list (E.map eD)) := shp_list fun d hd => by
  obtain ⟨p, _, rfl⟩ := List.mem_map.mp hd
  exact shp_e p
theorem eI_inj {a b : Edg} (h : eI a = eI b) : a = b := by
  obtain ⟨a1, a2, a3⟩ := a
  obtain ⟨b1, b2, b3⟩ := b
  unfold eI at h
  injection h with h1 h
  injection h with h2 h
  injection h with h3 _
  have h1 : (a1 : Int) = b1 := h1
  have h2 : (a2 : Int) = b2 := h2
  have h3 : (a3 : Int) = b3 := h3
  rw [show a1 = b1 by omega, show a2 = b2 by omega, show a3 = b3 by omega]
theorem es_perm {E : List Edg} {qs : List (List Int)} (h : qs.Perm (E.map eI)) : ∃ E' : List Edg, qs = E'.map eI ∧ E'.Perm E := by
  generalize hp : E.map eI = ps at h
  induction h generalizing E with
  | nil => exact ⟨[], rfl, by cases E with
    | nil => exact .refl _
    | cons _ _ => cases hp⟩
  | cons x _ ih =>
    cases E with
    | nil => cases hp
    | cons e E =>
      injection hp with h1 h2
      obtain ⟨E', e1, e2⟩ := ih h2
      exact ⟨e :: E', by rw [List.map_cons, h1, e1], e2.cons e⟩
  | swap x y l =>
    match E, hp with
    | [], hp => cases hp
    | [_], hp => injection hp with _ h2; cases h2
    | e :: g :: E, hp =>
      injection hp with h1 h2
      injection h2 with h2 h3
      exact ⟨g :: e :: E, by rw [List.map_cons, List.map_cons, h1, h2, h3], .swap _ _ _⟩
  | trans _ _ ih1 ih2 =>
    obtain ⟨E2, e1, e2⟩ := ih2 hp
    obtain ⟨E3, e3, e4⟩ := ih1 e1.symm
    exact ⟨E3, e3, e4.trans e2⟩
def spGraph : DSpec := fun as Q => ∃ (l : List Nat) (n : Nat), as = [.dat (.list (l.map ni)), .dat (.int (n : Int))] ∧ l.length ≤ 60 ∧ 0 < n ∧ n ≤ 100 ∧ ∀ E : List Edg, (∀ e ∈ E, EOk n e) → E.length ≤ l.length → Q (.D (grD n E))
theorem ok_graph {f : Addr} {fd : FuncData} (F : Fun K "_law_graph" "_law_graph" s__law_graph f fd) (mmi : mg "min" = none) (mma : mg "max" = none) (min : mg "int" = none) (mso : mg "sorted" = none) (mtu : mg "tuple" = none) : FnOk P w K mg base CX0 1 f fd ["numbers", "nodes"] (lift K 2 spGraph) := by
  refine def_ok F sc__law_graph rfl (fun cdv A outer s H E0 c as R hr hl hs => ?_)
  obtain ⟨l, n, rfl, hll, hn0, hn, q⟩ := hs
  obtain ⟨n0, n1, n2, n3, n4, n5, n6⟩ := nm__law_graph
  have nd := sc__law_graph.nd
  walk_at "asgL"
  refine wl_lst ?_
  walk_at "es"
  refine wb_cut (fun A => ∃ (E : List Edg) (y3 y4 y5 y6 : SV), A = ⟨[.dat (.list (l.map ni)), .dat (.int (n : Int)), .own 0, y3, y4, y5, y6], [some (E.map eD)]⟩ ∧ (∀ e ∈ E, EOk n e) ∧ E.length ≤ l.length) (ws_forL (I := fun i A => ∃ (E : List Edg) (y3 y4 y5 y6 : SV), A = ⟨[.dat (.list (l.map ni)), .dat (.int (n : Int)), .own 0, y3, y4, y5, y6], [some (E.map eD)]⟩ ∧ (∀ e ∈ E, EOk n e) ∧ E.length ≤ i) ?_ PassesOwn.never) ?_
  · walk_at "es"
    refine ⟨_, rfl, ⟨[], _, _, _, _, rfl, fun e he => (by cases he), Nat.le_refl 0⟩, fun i x A' hx hA => ?_, fun A' hA => ?_⟩
    · obtain ⟨E, y3, y4, y5, y6, rfl, he, hel⟩ := hA
      obtain ⟨v, hv, rfl⟩ := nis_get hx
      have hi : i < l.length := (List.getElem?_eq_some_iff.mp hv).1
      have hz : (E.map eD).length < 100000 := by rw [List.length_map]; omega
      walk_at "tgt"
      with_reducible refine wb_gen (P := fun A => ∃ (E : List Edg) (y3 y4 y5 y6 : SV), A = ⟨[.dat (.list (l.map ni)), .dat (.int (n : Int)), .own 0, y3, y4, y5, y6], [some (E.map eD)]⟩ ∧ (∀ e ∈ E, EOk n e) ∧ E.length ≤ i + 1) (fun D' hD => ?_) (fun _ h => h)
      obtain ⟨a, ha, ha2⟩ : ∃ a : Nat, (v : Int) % ((n : Int) + 1) = (a : Int) ∧ a ≤ n := ⟨v % (n + 1), by push_cast; rfl, by have := Nat.mod_lt v (show 0 < n + 1 by omega); omega⟩
      obtain ⟨b, hb, hb2⟩ : ∃ a : Nat, (v : Int) / 16 % ((n : Int) + 1) = (a : Int) ∧ a ≤ n := ⟨v / 16 % (n + 1), by push_cast; rfl, by have := Nat.mod_lt (v / 16) (show 0 < n + 1 by omega); omega⟩
      obtain ⟨fl, hf, hf2⟩ : ∃ a : Nat, (v : Int) / 256 % 2 = (a : Int) ∧ a < 2 := ⟨v / 256 % 2, by push_cast; rfl, by omega⟩
      walk_at "asg"
      walk_at "es"
      rw [ha]
      walk_at "asg"
      walk_at "es"
      refine od_div (by decide) ?_
      walk_at "es"
      rw [hb]
      walk_at "asg"
      refine we_tup (wa_cons ?_)
      refine we_blt (id := "min") mmi ?_
      walk_at "es"
      refine cd_min2 rfl ?_
      rw [min_cast]
      refine wa_cons ?_
      refine we_blt (id := "max") mma ?_
      walk_at "es"
      refine cd_max2 rfl ?_
      rw [max_cast]
      walk_at "es"
      refine od_div (by decide) ?_
      walk_at "es"
      rw [hf]
      have hsh := (shp_e (Min.min a b, Max.max a b, fl)).shaped (by decide)
      have hshs := (shp_es E).shaped (by decide)
      refine wb_cons (ws_if (wt_bor fun c2 => ?_))
      walk_at "es"
      refine ⟨fun h => ?_, fun h => ?_⟩
      · have hne : a ≠ b := fun z => by rw [z] at h; simp at h
        walk_at "es"
        refine od_ninD (room65 hr) hsh hshs ?_
        refine bool_go ?_
        refine ⟨fun h2 => ?_, fun h2 => ?_⟩
        · walk_at "app"
          case hz => exact hz
          walk_at "es"
          refine hD _ ⟨E ++ [(Min.min a b, Max.max a b, fl)], _, _, _, _, by rw [List.map_append]; rfl, fun e hh => ?_, by rw [List.length_append]; exact Nat.add_le_add_right hel 1⟩
          rcases List.mem_append.mp hh with hh | hh
          · exact he e hh
          · rw [List.mem_singleton.mp hh]
            exact ⟨by show Min.min a b < Max.max a b; omega, by show Max.max a b ≤ n; omega, hf2⟩
        · walk_at "es"
          exact hD _ ⟨E, _, _, _, _, rfl, he, by omega⟩
      · walk_at "es"
        exact hD _ ⟨E, _, _, _, _, rfl, he, by omega⟩
    · obtain ⟨E, y3, y4, y5, y6, rfl, he, hel⟩ := hA
      exact ⟨E, _, _, _, _, rfl, he, by rw [List.length_map] at hel; exact hel⟩
  rintro A' ⟨E, y3, y4, y5, y6, rfl, he, hel⟩
  refine wb_freeze 0 rfl ?_
  walk_at "ret"
  refine we_tup (wa_cons ?_)
  walk_at "e"
  refine wa_cons ?_
  refine we_ty (T := "tuple") mtu ?_
  refine wa_cons (we_of_wl (wl_blt (id := "sorted") mso ?_))
  walk_at "es"
  show CalL _ _ _ [.list (E.map eD)] _
  rw [show E.map eD = (E.map eI).map tI by rw [List.map_map]; rfl]
  refine cl_sortTs (d := 3) (B := 1000) (by decide) (by rw [List.length_map]; omega) (fun p hp => ?_) fun qs hq _ => ?_
  · obtain ⟨e, hee, rfl⟩ := List.mem_map.mp hp
    obtain ⟨z1, z2, z3⟩ := he e hee
    refine ⟨rfl, fun m hm => ?_⟩
    unfold eI at hm
    rcases List.mem_cons.mp hm with rfl | hm
    · omega
    rcases List.mem_cons.mp hm with rfl | hm
    · omega
    rcases List.mem_cons.mp hm with rfl | hm
    · omega
    cases hm
  · obtain ⟨E', rfl, hE⟩ := es_perm hq
    walk_at "es"
    refine cd_tuple ?_
    walk_at "es"
    rw [show (E'.map eI).map tI = E'.map eD by rw [List.map_map]; rfl]
    exact q E' (fun e h => he e (hE.mem_iff.mp h)) (by rw [hE.length_eq]; exact hel)
/-! ### odd nodes and flips -/
def edg (E : List Edg) (k : Nat) : Edg := E.getD k (0, 0, 0)
def ends (E : List Edg) (l : List Nat) : List Nat := l.flatMap fun k => [(edg E k).1, (edg E k).2.1]
theorem ends_snoc (E : List Edg) (l : List Nat) (k : Nat) : ends E (l ++ [k]) = ends E l ++ [(edg E k).1, (edg E k).2.1] := by unfold ends; rw [List.flatMap_append]; rfl
theorem edg_of {E : List Edg} {k : Nat} {e : Edg} (h : E[k]? = some e) : edg E k = e := by unfold edg; rw [List.getD_eq_getElem?_getD, h]; rfl
theorem eD_get {E : List Edg} {k : Nat} {e : Edg} (h : E[k]? = some e) : (E.map eD)[k]? = some (.tuple [.int (e.1 : Int), .int (e.2.1 : Int), .int (e.2.2 : Int)]) := by rw [List.getElem?_map, h]; rfl
theorem maskOf_lt {L : Nat} : ∀ (ks : List Nat), (∀ k ∈ ks, k < L) → maskOf ks < 2 ^ L
  | [], _ => Nat.pow_pos (by decide)
  | k :: ks, h => by
    rw [maskOf_cons]
    exact Nat.xor_lt_two_pow (Nat.pow_lt_pow_right (by decide) (h k (List.mem_cons_self ..))) (maskOf_lt ks fun x hx => h x (List.mem_cons_of_mem _ hx))
theorem maskOf_bit (v : Nat) : ∀ ks : List Nat, (maskOf ks).testBit v = decide (ks.count v % 2 = 1)
  | [] => by show (0 : Nat).testBit v = _; rw [Nat.zero_testBit]; rfl
  | k :: ks => by
    rw [maskOf_cons, Nat.testBit_xor, maskOf_bit v ks, Nat.testBit_two_pow, List.count_cons]
    by_cases e : k = v
    · subst e
      simp only [decide_true, beq_self_eq_true, if_true]
      by_cases h : ks.count k % 2 = 1
      · rw [decide_eq_true h, decide_eq_false (by omega)]; rfl
      · rw [decide_eq_false h, decide_eq_true (by omega)]; rfl
    · have e2 : (k == v) = false := beq_false_of_ne e
      rw [decide_eq_false e, e2]
      simp only [Bool.false_eq_true, if_false, Nat.add_zero, Bool.false_xor]
theorem bits_below {M n d : Nat} (h : M < 2 ^ (n + d)) : (bits M).filter (fun v => decide (v < n)) = (List.range n).filter M.testBit := by
  rw [bits_filter (n + d) M h, List.range_add, List.filter_append, List.filter_append, List.filter_filter, List.filter_filter]
  have e1 : (List.range n).filter (fun a => decide (a < n) && M.testBit a) = (List.range n).filter M.testBit := List.filter_congr fun x hx => by
    rw [decide_eq_true (List.mem_range.mp hx), Bool.true_and]
  have e2 : ((List.range d).map (n + ·)).filter (fun a => decide (a < n) && M.testBit a) = [] := by
    rw [List.filter_eq_nil_iff]
    intro x hx
    obtain ⟨y, _, rfl⟩ := List.mem_map.mp hx
    rw [decide_eq_false (by omega), Bool.false_and]
    exact Bool.false_ne_true
  rw [e1, e2, List.append_nil]
def odn (n : Nat) (E : List Edg) (l : List Nat) : List Nat := (List.range n).filter (maskOf (ends E l)).testBit
def GOk (n : Nat) (E : List Edg) (l : List Nat) : Prop := (∀ e ∈ E, EOk n e) ∧ (∀ k ∈ l, k < E.length) ∧ l.length ≤ 100 ∧ n ≤ 100 ∧ E.length ≤ 100
theorem GOk.get {n : Nat} {E : List Edg} {l : List Nat} (h : GOk n E l) {i k : Nat} (hk : l[i]? = some k) : ∃ e, E[k]? = some e ∧ EOk n e := by
  have hlt := h.2.1 k (List.mem_of_getElem? hk)
  exact ⟨E[k], List.getElem?_eq_getElem hlt, h.1 _ (List.getElem_mem hlt)⟩
theorem GOk.ends {n : Nat} {E : List Edg} {l : List Nat} (h : GOk n E l) : ∀ v ∈ ends E l, v < n + 1 := fun v hv => by
  unfold Pf.ends at hv
  obtain ⟨k, hk, hv⟩ := List.mem_flatMap.mp hv
  obtain ⟨i, hi⟩ := List.getElem?_of_mem hk
  obtain ⟨e, he, h1, h2, _⟩ := h.get hi
  rw [edg_of he] at hv
  rcases List.mem_cons.mp hv with rfl | hv
  · omega
  rcases List.mem_cons.mp hv with rfl | hv
  · omega
  cases hv
def spOdn : DSpec := fun as Q => ∃ (n : Nat) (E : List Edg) (l : List Nat), as = [.dat (grD n E), .dat (.list (l.map ni))] ∧ GOk n E l ∧ Q (.L ((odn n E l).map ni))
/-! ### the law's own count -/
def mny (f : Nat → Nat) (n : Nat) : List PyData := (List.range (n + 1)).map fun v => ni (f v)
theorem mny_get (f : Nat → Nat) {n v : Nat} (h : v < n + 1) : (mny f n)[v]? = some (.int ((f v : Nat) : Int)) := by
  unfold mny
  rw [List.getElem?_map, List.getElem?_range h]; rfl
theorem mny_len (f : Nat → Nat) (n : Nat) : (mny f n).length = n + 1 := by unfold mny; rw [List.length_map, List.length_range]
theorem mny_set (f : Nat → Nat) (n a : Nat) : (mny f n).set a (ni (f a + 1)) = mny (fun v => f v + [a].count v) n := by
  apply List.ext_getElem?
  intro i
  by_cases hi : i < n + 1
  · rw [mny_get _ hi]
    by_cases e : a = i
    · subst e
      rw [List.getElem?_set_self (by rw [mny_len]; exact hi)]
      simp [ni]
    · rw [List.getElem?_set_ne e, mny_get _ hi]
      have : [a].count i = 0 := List.count_eq_zero.mpr fun h => e (List.mem_singleton.mp h).symm
      rw [this]
      rfl
  · rw [List.getElem?_eq_none (by rw [List.length_set, mny_len]; omega), List.getElem?_eq_none (by rw [mny_len]; omega)]
theorem mny_zero (n : Nat) : (List.replicate (n + 1) [PyData.int 0]).flatten = mny (fun _ => 0) n := by
  unfold mny
  rw [List.flatten_replicate_singleton]
  apply List.ext_getElem?
  intro i
  rw [List.getElem?_map, List.getElem?_replicate]
  by_cases hi : i < n + 1
  · rw [if_pos hi, List.getElem?_range hi]; rfl
  · rw [if_neg hi, List.getElem?_eq_none (by rw [List.length_range]; omega)]; rfl
theorem ok_lodd {f : Addr} {fd : FuncData} (F : Fun K "_law_odd" "_law_odd" s__law_odd f fd) (mra : mg "range" = none) (min : mg "int" = none) : FnOk P w K mg base CX0 1 f fd ["graph", "edges"] (lift K 2 spOdn) := by
  refine def_ok F sc__law_odd rfl (fun cdv A outer s H E0 c as R hr hl hs => ?_)
  obtain ⟨n, E, l, rfl, hg, q⟩ := hs
  obtain ⟨n0, n1, n2, n3, n4⟩ := nm__law_odd
  have nd := sc__law_odd.nd
  have hll := hg.2.2.1
  have hn := hg.2.2.2.1
  unfold grD
  walk_at "asgL"
  refine wl_rep (wl_lst ?_)
  walk_at "es"
  refine ⟨n + 1, by push_cast; rfl, by omega, by show 1 * (n + 1) ≤ 100000; omega, ?_⟩
  rw [mny_zero]
  refine wb_cut (fun A => ∃ y3 y4 : SV, A = ⟨[.dat (.tuple [.int (n : Int), .tuple (E.map eD)]), .dat (.list (l.map ni)), .own 0, y3, y4], [some (mny (fun v => (ends E l).count v) n)]⟩) (ws_forL (I := fun i A => ∃ y3 y4 : SV, A = ⟨[.dat (.tuple [.int (n : Int), .tuple (E.map eD)]), .dat (.list (l.map ni)), .own 0, y3, y4], [some (mny (fun v => (ends E (l.take i)).count v) n)]⟩) ?_ PassesOwn.never) ?_
  · walk_at "es"
    refine ⟨_, rfl, ⟨_, _, rfl⟩, fun i x A' hx hA => ?_, fun A' hA => ?_⟩
    · obtain ⟨y3, y4, rfl⟩ := hA
      obtain ⟨k, hk, rfl⟩ := nis_get hx
      obtain ⟨⟨a, b, fl⟩, he, h1, h2, _⟩ := hg.get hk
      have h1 : a < b := h1
      have h2 : b ≤ n := h2
      have he2 := eD_get he
      have hend : mny (fun v => (ends E (l.take i)).count v + [a].count v + [b].count v) n = mny (fun v => (ends E (l.take (i + 1))).count v) n := by
        refine congrArg (fun f => mny f n) (funext fun v => ?_)
        rw [List.take_add_one, hk, show (some k).toList = [k] from rfl, ends_snoc, edg_of he, List.count_append, Nat.add_assoc, ← List.count_append]
        rfl
      rw [← hend]
      obtain ⟨fn, hfn⟩ : ∃ fn : Nat → Nat, fn = fun v => (ends E (l.take i)).count v := ⟨_, rfl⟩
      have hsw : (fun v => (ends E (l.take i)).count v + [a].count v + [b].count v) = fun v => fn v + [a].count v + [b].count v := by rw [hfn]
      rw [hsw, ← hfn]
      clear hsw hfn hend
      walk_at "tgt"
      walk_at "setO"
      walk_at "es"
      refine ix_goT (atI_nat he2) ?_
      walk_at "es"
      refine ⟨_, _, rfl, atI_nat (mny_get _ (by omega)), ?_⟩
      walk_at "es"
      refine ix_goT (atI_nat he2) ?_
      walk_at "es"
      rw [← Int.natCast_succ]
      refine ⟨a, rfl, by show a < (mny _ n).length; rw [mny_len]; omega, ?_⟩
      have e1 : (mny fn n).set a (.int (((fn a).succ : Nat) : Int)) = mny (fun v => fn v + [a].count v) n := mny_set fn n a
      rw [e1]
      have e2 : (mny (fun v => fn v + [a].count v) n).set b (.int (((fn b + [a].count b).succ : Nat) : Int)) = mny (fun v => fn v + [a].count v + [b].count v) n := mny_set (fun v => fn v + [a].count v) n b
      walk_at "setO"
      walk_at "es"
      refine ix_goT (atI_nat he2) ?_
      walk_at "es"
      refine ⟨_, _, rfl, atI_nat (mny_get _ (by omega)), ?_⟩
      walk_at "es"
      refine ix_goT (atI_nat he2) ?_
      walk_at "es"
      rw [← Int.natCast_succ]
      refine ⟨b, rfl, by show b < (mny _ n).length; rw [mny_len]; omega, ?_⟩
      rw [e2]
      walk_at "es"
      exact ⟨_, _, rfl⟩
    · obtain ⟨y3, y4, rfl⟩ := hA
      rw [List.length_map, List.take_length]
      exact ⟨_, _, rfl⟩
  rintro A' ⟨y3, y4, rfl⟩
  refine wb_freeze 0 rfl ?_
  refine wb_cons (ws_retL (wl_lcR (j := 4) (P := fun i acc => acc = ((List.range i).filter (maskOf (ends E l)).testBit).map ni) mra (blkOk_by (N := N__law_odd) (sc := defScope s__law_odd) (by decide +kernel)) ?_ nd (fun _ _ _ _ _ => pg_name nd rfl (Or.inl rfl))))
  walk_at "es"
  refine ⟨by omega, by omega, rfl, fun i acc hi hacc => ?_, fun acc hacc => ?_⟩
  · have hi2 : i < n := by omega
    intro s1 H1 C1 cl1 fp1
    refine wts_one ?_
    walk_at "es"
    refine ix_goL (atI_nat (mny_get _ (by omega))) ?_
    walk_at "es"
    have hb := maskOf_bit i (ends E l)
    have hd : decide ((((ends E l).count i : Nat) : Int) % 2 = 1) = (maskOf (ends E l)).testBit i := by
      rw [hb]
      exact decide_eq_decide.mpr (by omega)
    rw [hd]
    refine ⟨fun h => ?_, fun h => ?_⟩
    · intro s2 H2 C2 cl2 fp2
      walk_at "es"
      show acc ++ [ni i] = _
      rw [hacc]
      exact (filt_yes h).symm
    · show acc = _
      rw [hacc]
      exact (filt_no h).symm
  · rw [Int.toNat_natCast] at hacc
    rw [hacc]
    exact q
theorem sm_of {n : Nat} (h : n < 2 ^ 1000) : Sm n := Nat.lt_of_lt_of_le h (Nat.pow_le_pow_right (by decide) (by decide))
def spWeight : DSpec := fun as Q => ∃ n : Nat, as = [.dat (.int (n : Int))] ∧ Sm n ∧ Q (.D (.int (pop n : Nat)))
theorem ok_weight {f : Addr} {fd : FuncData} (F : Fun K "weight" "weight" s_weight f fd) : FnOk P w K mg base CX0 1 f fd ["mask"] (lift K 1 spWeight) := by
  refine def_ok F sc_weight rfl (fun cdv A outer s H E c as R hr hl hs => ?_)
  obtain ⟨n, rfl, hn, q⟩ := hs
  have n0 := nm_weight
  have nd := sc_weight.nd
  walk_at "ret"
  refine we_ones ?_
  walk_at "es"
  exact ⟨n, rfl, hn, q⟩
def spParity : DSpec := fun as Q => ∃ n : Nat, as = [.dat (.int (n : Int))] ∧ Sm n ∧ Q (.D (.int (pop n % 2 : Nat)))
theorem ok_parity {f : Addr} {fd : FuncData} (F : Fun K "parity" "parity" s_parity f fd) (C : Callee P w K mg base 1 "weight" 1 spWeight) : FnOk P w K mg base CX0 2 f fd ["mask"] (lift K 1 spParity) := by
  refine def_ok F sc_parity rfl (fun cdv A outer s H E c as R hr hl hs => ?_)
  obtain ⟨n, rfl, hn, q⟩ := hs
  have n0 := nm_parity
  have nd := sc_parity.nd
  walk_at "ret"
  walk_at "es"
  refine ⟨_, rfl, hn, ?_⟩
  walk_at "es"
  exact q
/-! ### how often an edge leaves cuts -/
def lv (m : Nat) (e : Edg) : Nat := (m / 2 ^ e.1 ^^^ m / 2 ^ e.2.1) % 2
def tml (cuts : List Nat) (e : Edg) : Nat := (cuts.map fun m => lv m e).sum
def spTml : DSpec := fun as Q => ∃ (cuts : List Nat) (e : Edg), as = [.dat (.list (cuts.map ni)), .dat (eD e)] ∧ cuts.length ≤ 1000 ∧ Q (.D (.int ((tml cuts e : Nat) : Int)))
theorem sum_castN (ns : List Nat) : (ns.map fun (n : Nat) => (n : Int)).sum = ((ns.sum : Nat) : Int) := by
  induction ns with
  | nil => rfl
  | cons n ns ih => rw [List.map_cons, List.sum_cons, List.sum_cons, ih]; push_cast; rfl
theorem ok_tml {f : Addr} {fd : FuncData} (F : Fun K "times_left" "times_left" s_times_left f fd) (msu : mg "sum" = none) : FnOk P w K mg base CX0 1 f fd ["cuts", "edge"] (lift K 2 spTml) := by
  refine def_ok F sc_times_left rfl (fun cdv A outer s H E0 c as R hr hl hs => ?_)
  obtain ⟨cuts, ⟨ea, eb, ef⟩, rfl, hc, q⟩ := hs
  obtain ⟨n0, n1, n2, n3, n4, n5⟩ := nm_times_left
  have nd := sc_times_left.nd
  unfold eD
  refine wb_cons (ws_asgT ?_)
  walk_at "es"
  walk_at "ret"
  refine we_blt (id := "sum") msu ?_
  refine wa_cons (we_of_wl (wl_lcL (j := 5) (P := fun i acc => acc = ((cuts.take i).map fun m => lv m (ea, eb, ef)).map ni) (blkOk_by (N := N_times_left) (sc := defScope s_times_left) (by decide +kernel)) ?_ nd (fun _ _ _ _ _ => pg_name nd rfl (Or.inl rfl))))
  walk_at "es"
  refine ⟨_, rfl, by rw [List.length_map]; omega, rfl, fun i x acc hx hacc => ?_, fun acc hacc => ?_⟩
  · obtain ⟨m, hm, rfl⟩ := nis_get hx
    intro s1 H1 C1 cl1 fp1
    refine wts_nil ⟨fun _ => ?_, fun z => (nomatch z)⟩
    intro s2 H2 C2 cl2 fp2
    walk_at "es"
    show acc ++ [ni (lv m (ea, eb, ef))] = _
    rw [hacc, List.take_add_one, hm, List.map_append, List.map_append]
    rfl
  · rw [List.length_map, List.take_length] at hacc
    rw [hacc, ni_ints (cuts.map fun m => lv m (ea, eb, ef))]
    walk_at "es"
    refine cd_sum rfl ?_
    rw [sum_castN]
    exact q
def shl (E : List Edg) (fired : List Nat) (size : Nat) (cuts : List Nat) : Bool :=
  decide (cuts.length = 2 * size) && (!(cuts.map fun m => decide (pop (m &&& maskOf fired) % 2 = 0)).any id && (E.map fun e => decide (tml cuts e ≤ 2)).all id)
def spShl : DSpec := fun as Q => ∃ (n : Nat) (E : List Edg) (fired : List Nat) (size : Nat) (cuts : List Nat), as = [.dat (grD n E), .dat (.list (fired.map ni)), .dat (.int (size : Int)), .dat (.list (cuts.map ni))] ∧ E.length ≤ 1000 ∧ (∀ v ∈ fired, v ≤ 1000) ∧ cuts.length ≤ 1000 ∧ (∀ m ∈ cuts, m < 2 ^ 1000) ∧ Q (.D (.bool (shl E fired size cuts)))
theorem ok_shl {f : Addr} {fd : FuncData} (F : Fun K "shows_least" "shows_least" s_shows_least f fd) (mle : mg "len" = none) (man : mg "any" = none) (mal : mg "all" = none) (CM : Callee P w K mg base 1 "mask_of" 1 spMaskL) (CP : Callee P w K mg base 2 "parity" 1 spParity) (CT : Callee P w K mg base 1 "times_left" 2 spTml) : FnOk P w K mg base CX0 3 f fd ["graph", "fired", "size", "cuts"] (lift K 4 spShl) := by
  refine def_ok F sc_shows_least rfl (fun cdv A outer s H E0 c as R hr hl hs => ?_)
  obtain ⟨n, E, fired, size, cuts, rfl, hE, hf, hc, hm, q⟩ := hs
  obtain ⟨n0, n1, n2, n3, n4, n5, n6⟩ := nm_shows_least
  have nd := sc_shows_least.nd
  unfold grD
  unfold shl at q
  refine wb_cons (ws_if ?_)
  walk_at "es"
  rw [List.length_map, show (!decide ((cuts.length : Int) = 2 * (size : Int))) = !decide (cuts.length = 2 * size) from congrArg _ (decide_eq_decide.mpr (by omega))]
  refine ⟨fun h => ?_, fun h => ?_⟩
  · have h : decide (cuts.length = 2 * size) = false := by simpa using h
    walk_at "es"
    walk_at "ret"
    walk_at "es"
    rw [h] at q
    exact q
  have h : decide (cuts.length = 2 * size) = true := by simpa using h
  rw [h, Bool.true_and] at q
  walk_at "es"
  walk_at "asg"
  walk_at "es"
  refine ⟨fired, rfl, fun k hk => by have := hf k hk; omega, ?_⟩
  dsimp only [RV.frz]
  generalize maskOf fired = M at q ⊢
  refine wb_cons (ws_if (wt_val ?_))
  refine we_blt (id := "any") man ?_
  refine wa_cons (we_of_wl (wl_lcL (j := 5) (P := fun i acc => acc = ((cuts.take i).map fun m => decide (pop (m &&& M) % 2 = 0)).map .bool) (blkOk_by (N := N_shows_least) (sc := defScope s_shows_least) (by decide +kernel)) ?_ nd (fun _ _ _ _ _ => pg_name nd rfl (Or.inl rfl))))
  walk_at "es"
  refine ⟨_, rfl, by rw [List.length_map]; omega, rfl, fun i x acc hx hacc => ?_, fun acc hacc => ?_⟩
  · obtain ⟨m, hmm, rfl⟩ := nis_get hx
    have hm1 := hm m (List.mem_of_getElem? hmm)
    intro s1 H1 C1 cl1 fp1
    refine wts_nil ⟨fun _ => ?_, fun z => (nomatch z)⟩
    intro s2 H2 C2 cl2 fp2
    walk_at "es"
    refine ⟨_, rfl, sm_of (Nat.lt_of_le_of_lt Nat.and_le_left hm1), ?_⟩
    dsimp only [RV.frz]
    walk_at "es"
    rw [show decide (((pop (m &&& M) % 2 : Nat) : Int) = 0) = decide (pop (m &&& M) % 2 = 0) from decide_eq_decide.mpr (by omega)]
    show acc ++ [.bool (decide (pop (m &&& M) % 2 = 0))] = _
    rw [hacc, List.take_add_one, hmm, List.map_append, List.map_append]
    rfl
  rw [List.length_map, List.take_length] at hacc
  rw [hacc]
  walk_at "es"
  refine cd_any rfl ?_
  walk_at "es"
  refine ⟨fun h => ?_, fun h => ?_⟩
  · walk_at "es"
    walk_at "ret"
    walk_at "es"
    rw [h] at q
    exact q
  rw [h, Bool.not_false, Bool.true_and] at q
  walk_at "es"
  walk_at "ret"
  refine we_blt (id := "all") mal ?_
  refine wa_cons (we_of_wl (wl_lcT (j := 6) (P := fun i acc => acc = ((E.take i).map fun e => decide (tml cuts e ≤ 2)).map .bool) (blkOk_by (N := N_shows_least) (sc := defScope s_shows_least) (by decide +kernel)) ?_ nd (fun _ _ _ _ _ => pg_name nd rfl (Or.inl rfl))))
  walk_at "es"
  refine ⟨_, rfl, by rw [List.length_map]; omega, rfl, fun i x acc hx hacc => ?_, fun acc hacc => ?_⟩
  · rw [List.getElem?_map] at hx
    cases he : E[i]? with
    | none => rw [he] at hx; cases hx
    | some e =>
      rw [he] at hx
      have ex : eD e = x := Option.some.inj hx
      subst ex
      intro s1 H1 C1 cl1 fp1
      refine wts_nil ⟨fun _ => ?_, fun z => (nomatch z)⟩
      intro s2 H2 C2 cl2 fp2
      walk_at "es"
      refine ⟨cuts, e, rfl, hc, ?_⟩
      dsimp only [RV.frz]
      walk_at "es"
      rw [show decide (((tml cuts e : Nat) : Int) ≤ 2) = decide (tml cuts e ≤ 2) from decide_eq_decide.mpr (by omega)]
      show acc ++ [.bool (decide (tml cuts e ≤ 2))] = _
      rw [hacc, List.take_add_one, he, List.map_append, List.map_append]
      rfl
  · rw [List.length_map, List.take_length] at hacc
    rw [hacc]
    walk_at "es"
    refine cd_all rfl ?_
    exact q
theorem cnt_xor (x y : Nat) : ∀ L, Eng.cnt L (x ^^^ y) % 2 = (Eng.cnt L x + Eng.cnt L y) % 2
  | 0 => rfl
  | L + 1 => by
    have ih := cnt_xor x y L
    simp only [Eng.cnt, Nat.testBit_xor]
    cases x.testBit L <;> cases y.testBit L <;> simp only [Bool.xor_self, Bool.xor_true, Bool.xor_false, Bool.not_false, Bool.toNat_true, Bool.toNat_false] <;> omega
theorem pop_xor (x y : Nat) : pop (x ^^^ y) % 2 = (pop x + pop y) % 2 := by
  have hx : x < 2 ^ ((x ||| y).log2 + 1) := Nat.lt_of_le_of_lt Nat.left_le_or Nat.lt_log2_self
  have hy : y < 2 ^ ((x ||| y).log2 + 1) := Nat.lt_of_le_of_lt Nat.right_le_or Nat.lt_log2_self
  rw [pop_cnt hx, pop_cnt hy, pop_cnt (Nat.xor_lt_two_pow hx hy), cnt_xor]
theorem cnt_one (k : Nat) : ∀ L, Eng.cnt L (2 ^ k) = if k < L then 1 else 0
  | 0 => rfl
  | L + 1 => by
    simp only [Eng.cnt, cnt_one k L, Nat.testBit_two_pow]
    by_cases h : k = L
    · subst h; simp
    · by_cases h2 : k < L
      · rw [if_pos h2, if_pos (by omega), decide_eq_false h]; rfl
      · rw [if_neg h2, if_neg (by omega), decide_eq_false h]; rfl
theorem pop_two (k : Nat) : pop (2 ^ k) = 1 := by
  rw [pop_cnt (Nat.pow_lt_pow_right (by decide) (Nat.lt_succ_self k)), cnt_one, if_pos (Nat.lt_succ_self k)]
theorem and_two (m k : Nat) : m &&& 2 ^ k = if m.testBit k then 2 ^ k else 0 := by
  apply Nat.eq_of_testBit_eq
  intro i
  rw [Nat.testBit_and, Nat.testBit_two_pow]
  cases h : m.testBit k with
  | true =>
    rw [if_pos rfl, Nat.testBit_two_pow]
    by_cases e : k = i
    · subst e; rw [h]; rfl
    · rw [decide_eq_false e, Bool.and_false]
  | false =>
    rw [if_neg Bool.false_ne_true, Nat.zero_testBit]
    by_cases e : k = i
    · subst e; rw [h]; rfl
    · rw [decide_eq_false e, Bool.and_false]
theorem pop_mask (m : Nat) : ∀ ks : List Nat, pop (m &&& maskOf ks) % 2 = (ks.filter m.testBit).length % 2
  | [] => by show pop (m &&& 0) % 2 = 0; rw [Nat.and_zero, show pop 0 = 0 by rw [pop]; rfl]
  | k :: ks => by
    rw [maskOf_cons, Nat.and_xor_distrib_left, pop_xor, Nat.add_mod, pop_mask m ks, and_two]
    cases h : m.testBit k with
    | true => rw [if_pos rfl, pop_two, List.filter_cons_of_pos h, List.length_cons]; omega
    | false =>
      rw [if_neg Bool.false_ne_true, List.filter_cons_of_neg (by rw [h]; exact Bool.false_ne_true)]
      rw [show pop 0 = 0 by rw [pop]; rfl]
      omega
theorem lv_bits (m : Nat) (e : Edg) : lv m e = (m.testBit e.1 ^^ m.testBit e.2.1).toNat := by
  unfold lv
  rw [xor_mod, Nat.add_mod, ← Nat.toNat_testBit, ← Nat.toNat_testBit]
  cases m.testBit e.1 <;> cases m.testBit e.2.1 <;> rfl
theorem lv_lt (m : Nat) (e : Edg) : lv m e < 2 := by unfold lv; omega
theorem tml_filter (e : Edg) : ∀ cuts : List Nat, tml cuts e = (cuts.filter fun m => decide (lv m e = 1)).length
  | [] => rfl
  | m :: cuts => by
    have ih := tml_filter e cuts
    have h := lv_lt m e
    show lv m e + tml cuts e = _
    rw [ih]
    by_cases h1 : lv m e = 1
    · rw [List.filter_cons_of_pos (by exact decide_eq_true h1), List.length_cons]; omega
    · rw [List.filter_cons_of_neg (by rw [decide_eq_false h1]; exact Bool.false_ne_true)]; omega
/-- every join has at least size edges -/
theorem ends_par (E : List Edg) (m : Nat) : ∀ l : List Nat, ((ends E l).filter m.testBit).length % 2 = (l.map fun k => lv m (edg E k)).sum % 2
  | [] => rfl
  | k :: l => by
    have ih := ends_par E m l
    have e : ends E (k :: l) = [(edg E k).1, (edg E k).2.1] ++ ends E l := rfl
    rw [e, List.filter_append, List.length_append, List.map_cons, List.sum_cons, lv_bits, Nat.add_mod, ih]
    cases h1 : m.testBit (edg E k).1 <;> cases h2 : m.testBit (edg E k).2.1 <;> simp [List.filter, h1, h2] <;> omega
theorem nodup_count {v : Nat} : ∀ {l : List Nat}, l.Nodup → v ∈ l → l.count v = 1
  | [], _, h => by cases h
  | x :: l, hn, h => by
    obtain ⟨h1, h2⟩ := List.nodup_cons.mp hn
    rw [List.count_cons]
    by_cases e : x = v
    · rw [List.count_eq_zero.mpr (e ▸ h1), if_pos (by exact beq_iff_eq.mpr e)]
    · have h3 : v ∈ l := by
        rcases List.mem_cons.mp h with z | z
        · exact absurd z.symm e
        · exact z
      rw [nodup_count h2 h3, if_neg (by intro z; exact e (beq_iff_eq.mp z))]
theorem and_odn {n m : Nat} {E : List Edg} {l : List Nat} (hm : m < 2 ^ n) : m &&& maskOf (odn n E l) = m &&& maskOf (ends E l) := by
  apply Nat.eq_of_testBit_eq
  intro i
  rw [Nat.testBit_and, Nat.testBit_and]
  by_cases hi : i < n
  · congr 1
    rw [maskOf_bit]
    have hnd : (odn n E l).Nodup := List.Pairwise.filter _ List.nodup_range
    cases hb : (maskOf (ends E l)).testBit i with
    | true =>
      have hmem : i ∈ odn n E l := List.mem_filter.mpr ⟨List.mem_range.mpr hi, hb⟩
      rw [nodup_count hnd hmem]; rfl
    | false =>
      have hmem : i ∉ odn n E l := fun h => by
        have := (List.mem_filter.mp h).2
        rw [hb] at this
        cases this
      rw [List.count_eq_zero.mpr hmem]; rfl
  · rw [Nat.testBit_lt_two_pow (Nat.lt_of_lt_of_le hm (Nat.pow_le_pow_right (by decide) (by omega))), Bool.false_and, Bool.false_and]
theorem sum_ge (f : Nat → Nat) : ∀ l : List Nat, (∀ m ∈ l, 1 ≤ f m) → l.length ≤ (l.map f).sum
  | [], _ => Nat.le_refl 0
  | m :: l, h => by
    have := sum_ge f l fun x hx => h x (List.mem_cons_of_mem _ hx)
    have := h m (List.mem_cons_self ..)
    rw [List.map_cons, List.sum_cons, List.length_cons]
    omega
theorem sum_le2 (f : Nat → Nat) : ∀ l : List Nat, (∀ m ∈ l, f m ≤ 2) → (l.map f).sum ≤ 2 * l.length
  | [], _ => Nat.le_refl 0
  | m :: l, h => by
    have := sum_le2 f l fun x hx => h x (List.mem_cons_of_mem _ hx)
    have := h m (List.mem_cons_self ..)
    rw [List.map_cons, List.sum_cons, List.length_cons]
    omega
theorem sum_add (f g : Nat → Nat) : ∀ l : List Nat, (l.map fun m => f m + g m).sum = (l.map f).sum + (l.map g).sum
  | [] => rfl
  | m :: l => by
    have := sum_add f g l
    simp only [List.map_cons, List.sum_cons]
    omega
theorem sum_swap (f : Nat → Nat → Nat) (l : List Nat) : ∀ cuts : List Nat, (cuts.map fun m => (l.map fun k => f m k).sum).sum = (l.map fun k => (cuts.map fun m => f m k).sum).sum
  | [] => by
    induction l with
    | nil => rfl
    | cons k l ih => simp only [List.map_cons, List.sum_cons, List.map_nil, List.sum_nil] at *; omega
  | m :: cuts => by
    have ih := sum_swap f l cuts
    simp only [List.map_cons, List.sum_cons]
    rw [ih, ← sum_add]
theorem cuts_bound {n size : Nat} {E : List Edg} {l cuts : List Nat} (hg : GOk n E l) (hc : ∀ m ∈ cuts, m < 2 ^ n) (h : shl E (odn n E l) size cuts = true) : size ≤ l.length := by
  unfold shl at h
  rw [Bool.and_eq_true, Bool.and_eq_true] at h
  obtain ⟨h1, h2, h3⟩ := h
  have h1 := of_decide_eq_true h1
  have h2 : ∀ m ∈ cuts, 1 ≤ (l.map fun k => lv m (edg E k)).sum := fun m hm => by
    have hp : ¬ pop (m &&& maskOf (odn n E l)) % 2 = 0 := fun z => by
      have : (cuts.map fun m => decide (pop (m &&& maskOf (odn n E l)) % 2 = 0)).any id = true := List.any_eq_true.mpr ⟨true, List.mem_map.mpr ⟨m, hm, decide_eq_true z⟩, rfl⟩
      rw [this] at h2
      cases h2
    rw [and_odn (hc m hm), pop_mask, ends_par] at hp
    omega
  have h3 : ∀ k ∈ l, (cuts.map fun m => lv m (edg E k)).sum ≤ 2 := fun k hk => by
    have hkl := hg.2.1 k hk
    have hmem : edg E k ∈ E := by rw [edg_of (List.getElem?_eq_getElem hkl)]; exact List.getElem_mem hkl
    have := List.all_eq_true.mp h3 (decide (tml cuts (edg E k) ≤ 2)) (List.mem_map.mpr ⟨_, hmem, rfl⟩)
    exact of_decide_eq_true this
  have z1 := sum_ge (fun m => (l.map fun k => lv m (edg E k)).sum) cuts h2
  have z2 := sum_le2 (fun k => (cuts.map fun m => lv m (edg E k)).sum) l h3
  rw [sum_swap (fun m k => lv m (edg E k))] at z1
  omega
def spLv : DSpec := fun as Q => ∃ (n : Nat) (E : List Edg) (k m : Nat) (e : Edg), as = [.dat (grD n E), .dat (.int (k : Int)), .dat (.int (m : Int))] ∧ E[k]? = some e ∧ EOk n e ∧ m < 2 ^ n ∧ Q (.D (.bool (decide (lv m e = 1))))
theorem ok_lv {f : Addr} {fd : FuncData} (F : Fun K "_law_leaves" "_law_leaves" s__law_leaves f fd) : FnOk P w K mg base CX0 1 f fd ["graph", "at", "cut"] (lift K 3 spLv) := by
  refine def_ok F sc__law_leaves rfl (fun cdv A outer s H E0 c as R hr hl hs => ?_)
  obtain ⟨n, E, k, m, e, rfl, he, ⟨h1, h2, h3⟩, hm, q⟩ := hs
  obtain ⟨n0, n1, n2, n3⟩ := nm__law_leaves
  have nd := sc__law_leaves.nd
  unfold grD
  walk_at "asg"
  walk_at "es"
  refine ix_goT (atI_nat (eD_get he)) ?_
  walk_at "es"
  refine wb_cons (ws_if ?_)
  walk_at "es"
  refine ix_goT (atI_nat (eD_get he)) ?_
  walk_at "es"
  have hlv : lv m e = (m / 2 ^ e.1 % 2 + m / 2 ^ e.2.1 % 2) % 2 := by unfold lv; rw [xor_mod, Nat.add_mod]
  refine ⟨fun h => ?_, fun h => ?_⟩
  · have h := of_decide_eq_true h
    have h0 : m / 2 ^ e.2.1 = 0 := Nat.div_eq_of_lt (by rw [show e.2.1 = n by omega]; exact hm)
    walk_at "es"
    walk_at "ret"
    walk_at "es"
    rw [show decide (((m / 2 ^ e.1 % 2 : Nat) : Int) = 1) = decide (lv m e = 1) from decide_eq_decide.mpr (by rw [hlv, h0]; omega)]
    exact q
  · walk_at "es"
    walk_at "ret"
    walk_at "es"
    refine ix_goT (atI_nat (eD_get he)) ?_
    walk_at "es"
    rw [show (!decide (((m / 2 ^ e.1 % 2 : Nat) : Int) = ((m / 2 ^ e.2.1 % 2 : Nat) : Int))) = decide (lv m e = 1) by
      rw [hlv]
      by_cases z : m / 2 ^ e.1 % 2 = m / 2 ^ e.2.1 % 2
      · rw [decide_eq_true (by omega), decide_eq_false (by omega)]; rfl
      · rw [decide_eq_false (by omega), decide_eq_true (by omega)]; rfl]
    exact q
def spLcs : DSpec := fun as Q => ∃ (n : Nat) (E : List Edg) (fired : List Nat) (size : Nat) (cuts : List Nat), as = [.dat (grD n E), .dat (.list []), .dat (.list (fired.map ni)), .dat (.int (size : Int)), .dat (.list (cuts.map ni))] ∧ (∀ e ∈ E, EOk n e) ∧ E.length ≤ 1000 ∧ n ≤ 100 ∧ fired.length ≤ 1000 ∧ cuts.length ≤ 1000 ∧ (∀ m ∈ cuts, m < 2 ^ n) ∧ Q (.D (.bool (shl E fired size cuts)))
theorem ok_lcs {f : Addr} {fd : FuncData} (F : Fun K "_law_cuts_show" "_law_cuts_show" s__law_cuts_show f fd) (mra : mg "range" = none) (mle : mg "len" = none) (mis : mg "isinstance" = none) (mli : mg "list" = none) (CI : Callee P w K mg base 1 "_law_is_integer" 1 spIsInt) (CL : Callee P w K mg base 1 "_law_leaves" 3 spLv) : FnOk P w K mg base CX0 2 f fd ["graph", "free", "fired", "size", "cuts"] (lift K 5 spLcs) := by
  refine def_ok F sc__law_cuts_show rfl (fun cdv A outer s H E0 c as R hr hl hs => ?_)
  obtain ⟨n, E, fired, size, cuts, rfl, hE, hEl, hn, hf, hc, hm, q⟩ := hs
  obtain ⟨n0, n1, n2, n3, n4, n5, n6, n7, n8⟩ := nm__law_cuts_show
  have nd := sc__law_cuts_show.nd
  have hno1 : ∀ m ∈ cuts, pop (m &&& maskOf fired) % 2 = 0 → shl E fired size cuts = false := fun m hmm h => by
    unfold shl
    rw [show (cuts.map fun m => decide (pop (m &&& maskOf fired) % 2 = 0)).any id = true from List.any_eq_true.mpr ⟨true, List.mem_map.mpr ⟨m, hmm, decide_eq_true h⟩, rfl⟩, Bool.not_true, Bool.false_and, Bool.and_false]
  have hno2 : ∀ e ∈ E, ¬ tml cuts e ≤ 2 → shl E fired size cuts = false := fun e he h => by
    unfold shl
    rw [show (E.map fun e => decide (tml cuts e ≤ 2)).all id = false from List.all_eq_false.mpr ⟨false, List.mem_map.mpr ⟨e, he, decide_eq_false h⟩, Bool.false_ne_true⟩, Bool.and_false, Bool.and_false]
  unfold grD
  refine wb_cons (ws_if ?_)
  walk_at "es"
  rw [List.length_map, show (!decide ((cuts.length : Int) = 2 * (size : Int))) = !decide (cuts.length = 2 * size) from congrArg _ (decide_eq_decide.mpr (by omega))]
  refine ⟨fun h => ?_, fun h => ?_⟩
  · have h : decide (cuts.length = 2 * size) = false := by simpa using h
    walk_at "es"
    walk_at "ret"
    walk_at "es"
    unfold shl at q
    rw [h] at q
    exact q
  have hlen : decide (cuts.length = 2 * size) = true := by simpa using h
  walk_at "es"
  refine wb_cut (fun A => (∃ y5 y8 : SV, A = ⟨[.dat (.tuple [.int (n : Int), .tuple (E.map eD)]), .dat (.list []), .dat (.list (fired.map ni)), .dat (.int (size : Int)), .dat (.list (cuts.map ni)), y5, .any, .any, y8], []⟩) ∧ ∀ m ∈ cuts, ¬ pop (m &&& maskOf fired) % 2 = 0) (ws_forL (I := fun i A => (∃ y5 y8 : SV, A = ⟨[.dat (.tuple [.int (n : Int), .tuple (E.map eD)]), .dat (.list []), .dat (.list (fired.map ni)), .dat (.int (size : Int)), .dat (.list (cuts.map ni)), y5, .any, .any, y8], []⟩) ∧ ∀ m ∈ cuts.take i, ¬ pop (m &&& maskOf fired) % 2 = 0) ?_ PassesOwn.never) ?_
  · walk_at "es"
    refine ⟨_, rfl, ⟨⟨_, _, rfl⟩, fun m hmm => (by rw [List.take_zero] at hmm; cases hmm)⟩, fun i x A' hx hA => ?_, fun A' hA => ?_⟩
    · obtain ⟨⟨y5, y8, rfl⟩, hodd⟩ := hA
      obtain ⟨m, hmi, rfl⟩ := nis_get hx
      have hmem := List.mem_of_getElem? hmi
      have hm1 := hm m hmem
      walk_at "tgt"
      refine wb_cons (ws_if ?_)
      walk_at "es"
      refine ⟨(m : Int), rfl, ?_⟩
      dsimp only [RV.frz]
      walk_at "es"
      rw [decide_eq_true (show ((m : Nat) : Int) < ((2 ^ n : Nat) : Int) by exact_mod_cast hm1)]
      walk_at "es"
      refine wb_cons (ws_if ?_)
      walk_at "es"
      refine we_of_wl (wl_lcL (j := 8) (P := fun k acc => acc = ((fired.take k).filter m.testBit).map ni) (blkOk_by (N := N__law_cuts_show) (sc := defScope s__law_cuts_show) (by decide +kernel)) ?_ nd (fun _ _ _ _ _ => pg_name nd rfl (Or.inl rfl)))
      walk_at "es"
      refine ⟨_, rfl, by rw [List.length_map]; omega, rfl, fun k x acc hx hacc => ?_, fun acc hacc => ?_⟩
      · obtain ⟨v, hv, rfl⟩ := nis_get hx
        intro s1 H1 C1 cl1 fp1
        refine wts_one ?_
        walk_at "es"
        rw [bit_test]
        refine ⟨fun h => ?_, fun h => ?_⟩
        · intro s2 H2 C2 cl2 fp2
          walk_at "es"
          show acc ++ [ni v] = ((fired.take (k + 1)).filter m.testBit).map ni
          rw [hacc, List.take_add_one, hv, List.filter_append, show (some v).toList = [v] from rfl, List.filter_cons_of_pos h, List.map_append]
          rfl
        · show acc = ((fired.take (k + 1)).filter m.testBit).map ni
          rw [hacc, List.take_add_one, hv, List.filter_append, show (some v).toList = [v] from rfl, List.filter_cons_of_neg (by rw [h]; exact Bool.false_ne_true), List.filter_nil, List.append_nil]
      rw [List.length_map, List.take_length] at hacc
      rw [hacc]
      walk_at "es"
      have hpm := pop_mask m fired
      rw [List.length_map, show decide ((((fired.filter m.testBit).length : Nat) : Int) % 2 = 0) = decide (pop (m &&& maskOf fired) % 2 = 0) from decide_eq_decide.mpr (by rw [hpm]; omega)]
      refine ⟨fun h => ?_, fun h => ?_⟩
      · walk_at "ret"
        walk_at "es"
        rw [hno1 m hmem (of_decide_eq_true h)] at q
        exact q
      · walk_at "es"
        refine ⟨⟨_, _, rfl⟩, fun m2 hm2 => ?_⟩
        rw [List.take_add_one, hmi] at hm2
        rcases List.mem_append.mp hm2 with hm2 | hm2
        · exact hodd m2 hm2
        · have e : m2 = m := List.mem_singleton.mp hm2
          rw [e]
          exact of_decide_eq_false h
    · obtain ⟨hA, hodd⟩ := hA
      rw [List.length_map, List.take_length] at hodd
      exact ⟨hA, hodd⟩
  rintro A' ⟨⟨y5, y8, rfl⟩, hodd⟩
  refine wb_cons (ws_forR1 (I := fun i A => (∃ y5 y6 y7 y8 : SV, A = ⟨[.dat (.tuple [.int (n : Int), .tuple (E.map eD)]), .dat (.list []), .dat (.list (fired.map ni)), .dat (.int (size : Int)), .dat (.list (cuts.map ni)), y5, y6, y7, y8], []⟩) ∧ ∀ e ∈ E.take i, tml cuts e ≤ 2) mra ?_ PassesOwn.never)
  walk_at "es"
  rw [List.length_map]
  refine ⟨by omega, by omega, ⟨⟨_, _, _, _, rfl⟩, fun e he => (by rw [List.take_zero] at he; cases he)⟩, fun i A' hi hA => ?_, fun A' hA => ?_⟩
  · obtain ⟨⟨y5, y6, y7, y8, rfl⟩, hle⟩ := hA
    obtain ⟨e, he⟩ : ∃ e, E[i]? = some e := ⟨_, List.getElem?_eq_getElem (by omega)⟩
    have hmem := List.mem_of_getElem? he
    have htf := tml_filter e cuts
    walk_at "tgt"
    walk_at "asg"
    walk_at "es"
    refine we_of_wl (wl_lcL (j := 5) (P := fun k acc => acc = ((cuts.take k).filter fun m => decide (lv m e = 1)).map ni) (blkOk_by (N := N__law_cuts_show) (sc := defScope s__law_cuts_show) (by decide +kernel)) ?_ nd (fun _ _ _ _ _ => pg_name nd rfl (Or.inl rfl)))
    walk_at "es"
    refine ⟨_, rfl, by rw [List.length_map]; omega, rfl, fun k x acc hx hacc => ?_, fun acc hacc => ?_⟩
    · obtain ⟨m, hmk, rfl⟩ := nis_get hx
      intro s1 H1 C1 cl1 fp1
      refine wts_one ?_
      walk_at "es"
      refine ⟨n, E, i, m, e, rfl, he, hE e hmem, hm m (List.mem_of_getElem? hmk), ?_⟩
      dsimp only [RV.frz]
      walk_at "es"
      refine ⟨fun h => ?_, fun h => ?_⟩
      · intro s2 H2 C2 cl2 fp2
        walk_at "es"
        show acc ++ [ni m] = ((cuts.take (k + 1)).filter fun m => decide (lv m e = 1)).map ni
        rw [hacc, List.take_add_one, hmk, List.filter_append, show (some m).toList = [m] from rfl, List.filter_cons_of_pos (p := fun m => decide (lv m e = 1)) h, List.map_append]
        rfl
      · show acc = ((cuts.take (k + 1)).filter fun m => decide (lv m e = 1)).map ni
        rw [hacc, List.take_add_one, hmk, List.filter_append, show (some m).toList = [m] from rfl, List.filter_cons_of_neg (p := fun m => decide (lv m e = 1)) (by rw [h]; exact Bool.false_ne_true), List.filter_nil, List.append_nil]
    rw [List.length_map, List.take_length] at hacc
    rw [hacc]
    walk_at "es"
    rw [List.length_map, ← htf]
    refine wb_cons (ws_if ?_)
    walk_at "es"
    refine ⟨fun h => ?_, fun h => ?_⟩
    · walk_at "es"
      walk_at "ret"
      walk_at "es"
      rw [hno2 e hmem (by have := of_decide_eq_true h; omega)] at q
      exact q
    · have hle2 : tml cuts e ≤ 2 := by have := of_decide_eq_false h; omega
      have hend : ∀ e2 ∈ E.take (i + 1), tml cuts e2 ≤ 2 := fun e2 h2 => by
        rw [List.take_add_one, he] at h2
        rcases List.mem_append.mp h2 with h2 | h2
        · exact hle e2 h2
        · have z : e2 = e := List.mem_singleton.mp h2
          rw [z]; exact hle2
      walk_at "es"
      refine ⟨fun _ => ?_, fun _ => ?_⟩
      · walk_at "es"
        refine od_inD (room65 hr) ((shp_int 0 _).shaped (by decide)) ((shp_ints []).shaped (by decide)) ?_
        walk_at "es"
        exact ⟨⟨_, _, _, _, rfl⟩, hend⟩
      · walk_at "es"
        exact ⟨⟨_, _, _, _, rfl⟩, hend⟩
  · obtain ⟨⟨y5, y6, y7, y8, rfl⟩, hle⟩ := hA
    rw [Int.toNat_natCast, List.take_length] at hle
    walk_at "ret"
    walk_at "es"
    have e1 : shl E fired size cuts = true := by
      unfold shl
      rw [hlen, Bool.true_and, Bool.and_eq_true]
      refine ⟨?_, List.all_eq_true.mpr fun b hb => ?_⟩
      · rw [Bool.not_eq_true', List.any_eq_false]
        intro b hb
        obtain ⟨m, hmm, rfl⟩ := List.mem_map.mp hb
        rw [decide_eq_false (hodd m hmm)]
        exact Bool.false_ne_true
      · obtain ⟨e, he, rfl⟩ := List.mem_map.mp hb
        exact decide_eq_true (hle e he)
    rw [e1] at q
    exact q
theorem shp_nis (B : List Nat) : Shp 1 (.list (B.map ni)) := by rw [ni_ints]; exact shp_ints _
theorem eqv_nisA : ∀ a b : List Nat, PyData.eqvAll (a.map ni) (b.map ni) = decide (a = b)
  | [], [] => by simp [PyData.eqvAll]
  | [], _ :: _ => by simp [PyData.eqvAll]
  | _ :: _, [] => by simp [PyData.eqvAll]
  | x :: a, y :: b => by
    have ih := eqv_nisA a b
    simp only [List.map_cons, PyData.eqvAll, ni, PyData.eqv] at *
    rw [ih, Bool.eq_iff_iff]
    simp only [Bool.and_eq_true, beq_iff_eq, decide_eq_true_eq, List.cons.injEq]
    constructor
    · rintro ⟨h1, h2⟩; exact ⟨by exact_mod_cast h1, h2⟩
    · rintro ⟨h1, h2⟩; exact ⟨by exact_mod_cast h1, h2⟩
theorem eqv_nis (a b : List Nat) : PyData.eqv (.list (a.map ni)) (.list (b.map ni)) = decide (a = b) := by
  simp only [PyData.eqv]
  exact eqv_nisA a b
theorem shp_two (a b : List Nat) : Shp 2 (.list [.list (a.map ni), .list (b.map ni)]) := shp_list fun d hd => by
  rcases List.mem_cons.mp hd with rfl | hd
  · exact shp_nis a
  rcases List.mem_cons.mp hd with rfl | hd
  · exact shp_nis b
  cases hd
theorem ok_law {f : Addr} {fd : FuncData} (F : Fun K "law" "law" s_law f fd) (mra : mg "range" = none) (mle : mg "len" = none) (mli : mg "list" = none) (mab : mg "abs" = none) (min : mg "int" = none) (mis : mg "isinstance" = none) (mbo : mg "bool" = none)
    (CL : Callee P w K mg base 1 "_law_cell" 2 spCell) (CN : Callee P w K mg base 1 "_law_numbers" 3 spNums) (CG : Callee P w K mg base 1 "_law_graph" 2 spGraph)
    (CA : Callee P w K mg base 1 "_law_odd" 2 spOdn) (CS : Callee P w K mg base 3 "shows_least" 4 spShl) (CC : Callee P w K mg base 2 "_law_cuts_show" 5 spLcs) : FnOk P w K mg base CX0 4 f fd ["script"] (spLaw K) := by
  refine def_law F sc_law (fun cdv A outer s H E0 c ns hr hpa hfx hns => ?_)
  obtain ⟨n0, n1, n2, n3, n4, n5, n6, n7, n8, n9, n10, n11, n12, n13, n14⟩ := nm_law
  have nd := sc_law.nd
  walk_at "asg"
  refine we_blt (id := "abs") mab ?_
  walk_at "es"
  refine ⟨ns, 0, rfl, fun v => ?_⟩
  dsimp only [RV.frz]
  walk_at "es"
  refine cd_abs ?_
  rw [abs_cast]
  generalize v.natAbs = dg
  walk_at "asg"
  walk_at "es"
  refine ⟨ns, 3, 12, rfl, hns, by decide, by decide, fun nums hn1 hn2 => ?_⟩
  dsimp only [RV.frz]
  walk_at "es"
  rw [show (1 : Int) + (dg : Int) % 8 = ((1 + dg % 8 : Nat) : Int) by push_cast; rfl]
  obtain ⟨hN0, hN1⟩ : 0 < 1 + dg % 8 ∧ 1 + dg % 8 ≤ 8 := ⟨by omega, by omega⟩
  generalize 1 + dg % 8 = n at hN0 hN1
  refine ⟨nums, n, rfl, by omega, hN0, by omega, fun E hE hEl => ?_⟩
  dsimp only [RV.frz]
  unfold grD
  walk_at "asg"
  refine we_blt (id := "abs") mab ?_
  walk_at "es"
  refine ⟨ns, 1, rfl, fun v => ?_⟩
  dsimp only [RV.frz]
  walk_at "es"
  refine cd_abs ?_
  rw [abs_cast]
  generalize v.natAbs = pk
  refine wb_cons (ws_lcR (i := 4) (j := 13) (P := fun i acc => acc = ((List.range i).filter pk.testBit).map ni) mra (blkOk_by (N := N_law) (sc := defScope s_law) (by decide +kernel)) ?_ nd (fun _ _ _ _ _ => pg_name nd rfl (Or.inl rfl)))
  walk_at "es"
  rw [List.length_map]
  refine ⟨by omega, by omega, rfl, fun i acc hi hacc => ?_, fun acc hacc => ?_⟩
  · intro s1 H1 C1 cl1 fp1
    refine wts_one ?_
    walk_at "es"
    rw [bit_test]
    refine ⟨fun h => ?_, fun h => ?_⟩
    · intro s2 H2 C2 cl2 fp2
      walk_at "es"
      show acc ++ [ni i] = _
      rw [hacc]
      exact (filt_yes h).symm
    · show acc = _
      rw [hacc]
      exact (filt_no h).symm
  rw [Int.toNat_natCast] at hacc
  rw [hacc]
  have hlk : ∀ k ∈ (List.range E.length).filter pk.testBit, k < E.length := fun k hk => List.mem_range.mp (List.mem_filter.mp hk).1
  have hll : ((List.range E.length).filter pk.testBit).length ≤ E.length := Nat.le_trans (List.length_filter_le _ _) (by rw [List.length_range]; exact Nat.le_refl _)
  generalize (List.range E.length).filter pk.testBit = l at hlk hll ⊢
  have hg : GOk n E l := ⟨hE, hlk, by omega, by omega, by omega⟩
  have hol : (odn n E l).length ≤ 100 ∧ ∀ v ∈ odn n E l, v < n := by
    unfold odn
    refine ⟨Nat.le_trans (List.length_filter_le _ _) (by rw [List.length_range]; omega), fun v hv => List.mem_range.mp (List.mem_filter.mp hv).1⟩
  refine wb_freeze 0 rfl ?_
  refine wb_forget 0 hfx ?_
  walk_at "asg"
  walk_at "es"
  refine ⟨n, E, l, rfl, hg, ?_⟩
  dsimp only [RV.frz]
  refine wb_cut (fun A => ∃ (fired : List Nat) (y13 y14 : SV), A = ⟨[.dat (.list (ns.map .int)), .dat (.int (dg : Int)), .dat (.tuple [.int (n : Int), .tuple (E.map eD)]), .dat (.int (pk : Int)), .dat (.list (l.map ni)), .dat (.list (fired.map ni)), .any, .any, .any, .any, .any, .any, .any, y13, y14], []⟩ ∧ fired.length ≤ 100 ∧ ∀ v ∈ fired, v < n) (ws_if ?_) ?_
  · walk_at "es"
    refine od_div (by decide) ?_
    walk_at "es"
    refine ⟨fun _ => ?_, fun _ => ?_⟩
    · refine wb_cons (ws_lcR (i := 5) (j := 14) (P := fun i acc => acc = ((List.range i).filter fun v => pk.testBit (v + 20)).map ni) mra (blkOk_by (N := N_law) (sc := defScope s_law) (by decide +kernel)) ?_ nd (fun _ _ _ _ _ => pg_name nd rfl (Or.inl rfl)))
      walk_at "es"
      refine ⟨by omega, by omega, rfl, fun i acc hi hacc => ?_, fun acc hacc => ?_⟩
      · intro s1 H1 C1 cl1 fp1
        refine wts_one ?_
        walk_at "es"
        rw [show (pk : Int) / 2 ^ ((i : Int) + 20).toNat = ((pk / 2 ^ (i + 20) : Nat) : Int) by rw [show ((i : Int) + 20).toNat = i + 20 by omega]; push_cast; rfl]
        walk_at "es"
        rw [bit_test]
        refine ⟨fun h => ?_, fun h => ?_⟩
        · intro s2 H2 C2 cl2 fp2
          walk_at "es"
          show acc ++ [ni i] = _
          rw [hacc]
          exact (filt_yes (f := fun v => pk.testBit (v + 20)) h).symm
        · show acc = _
          rw [hacc]
          exact (filt_no (f := fun v => pk.testBit (v + 20)) h).symm
      · rw [Int.toNat_natCast] at hacc
        rw [hacc]
        refine wb_freeze 0 rfl ?_
        refine wb_forget 0 hfx ?_
        exact wb_nil ⟨_, _, _, rfl, Nat.le_trans (Nat.le_trans (List.length_filter_le _ _) (by rw [List.length_range]; exact Nat.le_refl _)) (by omega), fun v hv => List.mem_range.mp (List.mem_filter.mp hv).1⟩
    · walk_at "es"
      exact ⟨_, _, _, rfl, hol.1, hol.2⟩
  rintro A' ⟨fired, y13, y14, rfl, hf1, hf2⟩
  walk_at "asg"
  refine we_blt (id := "abs") mab ?_
  walk_at "es"
  refine ⟨ns, 2, rfl, fun v => ?_⟩
  dsimp only [RV.frz]
  walk_at "es"
  refine cd_abs ?_
  rw [abs_cast]
  generalize v.natAbs = ce
  walk_at "asgL"
  refine wl_lst ?_
  walk_at "es"
  obtain ⟨ck, hck, hck2⟩ : ∃ t : Nat, (dg : Int) / 32 % 9 = (t : Int) ∧ t < 9 := ⟨dg / 32 % 9, by push_cast; rfl, by omega⟩
  refine wb_cut (fun A => ∃ (cuts : List Nat) (y8 y13 y14 : SV), A = ⟨[.dat (.list (ns.map .int)), .dat (.int (dg : Int)), .dat (.tuple [.int (n : Int), .tuple (E.map eD)]), .dat (.int (pk : Int)), .dat (.list (l.map ni)), .dat (.list (fired.map ni)), .dat (.int (ce : Int)), .own 0, y8, .any, .any, .any, .any, y13, y14], [some (cuts.map ni)]⟩ ∧ (∀ m ∈ cuts, m < 2 ^ n) ∧ cuts.length ≤ 9) (ws_forR1 (I := fun i A => ∃ (cuts : List Nat) (y8 y13 y14 : SV), A = ⟨[.dat (.list (ns.map .int)), .dat (.int (dg : Int)), .dat (.tuple [.int (n : Int), .tuple (E.map eD)]), .dat (.int (pk : Int)), .dat (.list (l.map ni)), .dat (.list (fired.map ni)), .dat (.int (ce : Int)), .own 0, y8, .any, .any, .any, .any, y13, y14], [some (cuts.map ni)]⟩ ∧ (∀ m ∈ cuts, m < 2 ^ n) ∧ cuts.length ≤ i) mra ?_ PassesOwn.never) ?_
  · walk_at "es"
    refine od_div (by decide) ?_
    walk_at "es"
    rw [hck]
    refine ⟨by omega, by omega, ⟨[], _, _, _, rfl, fun m h => (by cases h), Nat.le_refl 0⟩, fun i A' hi hA => ?_, fun A' hA => ?_⟩
    · obtain ⟨cuts, y8, y13, y14, rfl, hc1, hc2⟩ := hA
      have hz : (cuts.map ni).length < 100000 := by rw [List.length_map]; omega
      walk_at "tgt"
      with_reducible refine wb_gen (P := fun A => ∃ (cuts : List Nat) (y8 y13 y14 : SV), A = ⟨[.dat (.list (ns.map .int)), .dat (.int (dg : Int)), .dat (.tuple [.int (n : Int), .tuple (E.map eD)]), .dat (.int (pk : Int)), .dat (.list (l.map ni)), .dat (.list (fired.map ni)), .dat (.int (ce : Int)), .own 0, y8, .any, .any, .any, .any, y13, y14], [some (cuts.map ni)]⟩ ∧ (∀ m ∈ cuts, m < 2 ^ n) ∧ cuts.length ≤ i + 1) (fun D' hD => ?_) (fun _ h => h)
      have hend : ∀ m, m < 2 ^ n → (∀ x ∈ cuts ++ [m], x < 2 ^ n) ∧ (cuts ++ [m]).length ≤ i + 1 := fun m hm => ⟨fun x hx => by
        rcases List.mem_append.mp hx with h | h
        · exact hc1 x h
        · rw [List.mem_singleton.mp h]; exact hm, by rw [List.length_append]; exact Nat.add_le_add_right hc2 1⟩
      refine wb_cons (ws_if ?_)
      walk_at "es"
      refine od_div (by decide) ?_
      walk_at "es"
      refine ⟨fun _ => ?_, fun _ => ?_⟩
      · walk_at "es"
        refine od_neD hr.units ((shp_nis fired).shaped (by decide)) ((shp_nis []).shaped (by decide)) ?_
        rw [show PyData.eqv (.list (fired.map ni)) (.list []) = decide (fired = []) from eqv_nis fired []]
        refine bool_go ?_
        refine ⟨fun h => ?_, fun _ => ?_⟩
        · have hne : fired ≠ [] := by
            intro z; rw [z] at h; simp at h
          have hpos : 0 < fired.length := List.length_pos_iff.mpr hne
          walk_at "app"
          case hz => exact hz
          walk_at "es"
          rw [show (ce : Int) / 2 ^ ((3 : Int) * (i : Int)).toNat = ((ce / 2 ^ (3 * i) : Nat) : Int) by rw [show ((3 : Int) * (i : Int)).toNat = 3 * i by omega]; push_cast; rfl]
          refine od_and ?_
          obtain ⟨t, ht⟩ : ∃ t : Nat, Builtin.bitAnd ((ce / 2 ^ (3 * i) : Nat) : Int) 7 = (t : Int) := ⟨(ce / 2 ^ (3 * i)) &&& 7, rfl⟩
          rw [ht]
          walk_at "es"
          rw [List.length_map]
          refine od_mod (by omega) ?_
          have hlt := Nat.mod_lt t hpos
          refine ix_goL (d := ni (fired[t % fired.length])) (show atI (fired.map ni) ((t : Int) % (fired.length : Int)) = _ by rw [show (t : Int) % (fired.length : Int) = ((t % fired.length : Nat) : Int) by push_cast; rfl]; exact atI_nat (by rw [List.getElem?_map, List.getElem?_eq_getElem hlt]; rfl)) ?_
          have hfv := hf2 _ (List.getElem_mem hlt)
          generalize fired[t % fired.length] = v at hfv
          refine od_shl1 (by omega) ?_
          walk_at "es"
          obtain ⟨z1, z2⟩ := hend (2 ^ v) (Nat.pow_lt_pow_right (by decide) hfv)
          refine hD _ ⟨cuts ++ [2 ^ v], _, _, _, by rw [List.map_append]; rfl, z1, z2⟩
        · walk_at "app"
          case hz => exact hz
          walk_at "es"
          rw [show (ce : Int) / 2 ^ ((8 : Int) * (i : Int)).toNat = ((ce / 2 ^ (8 * i) : Nat) : Int) by rw [show ((8 : Int) * (i : Int)).toNat = 8 * i by omega]; push_cast; rfl]
          walk_at "es"
          refine od_mod (by exact_mod_cast Nat.two_pow_pos n) ?_
          rw [show ((ce / 2 ^ (8 * i) : Nat) : Int) % ((2 ^ n : Nat) : Int) = ((ce / 2 ^ (8 * i) % 2 ^ n : Nat) : Int) by push_cast; rfl]
          obtain ⟨z1, z2⟩ := hend (ce / 2 ^ (8 * i) % 2 ^ n) (Nat.mod_lt _ (Nat.two_pow_pos n))
          walk_at "es"
          refine hD _ ⟨cuts ++ [ce / 2 ^ (8 * i) % 2 ^ n], _, _, _, by rw [List.map_append]; rfl, z1, z2⟩
      · walk_at "es"
        walk_at "app"
        case hz => exact hz
        walk_at "es"
        rw [show (ce : Int) / 2 ^ ((8 : Int) * (i : Int)).toNat = ((ce / 2 ^ (8 * i) : Nat) : Int) by rw [show ((8 : Int) * (i : Int)).toNat = 8 * i by omega]; push_cast; rfl]
        walk_at "es"
        refine od_mod (by exact_mod_cast Nat.two_pow_pos n) ?_
        rw [show ((ce / 2 ^ (8 * i) : Nat) : Int) % ((2 ^ n : Nat) : Int) = ((ce / 2 ^ (8 * i) % 2 ^ n : Nat) : Int) by push_cast; rfl]
        obtain ⟨z1, z2⟩ := hend (ce / 2 ^ (8 * i) % 2 ^ n) (Nat.mod_lt _ (Nat.two_pow_pos n))
        walk_at "es"
        refine hD _ ⟨cuts ++ [ce / 2 ^ (8 * i) % 2 ^ n], _, _, _, by rw [List.map_append]; rfl, z1, z2⟩
    · obtain ⟨cuts, y8, y13, y14, rfl, hc1, hc2⟩ := hA
      exact ⟨cuts, y8, y13, y14, rfl, hc1, by omega⟩
  rintro A' ⟨cuts, y8, y13, y14, rfl, hc1, hc2⟩
  refine wb_freeze 0 rfl ?_
  refine wb_forget 0 hfx ?_
  walk_at "asg"
  walk_at "es"
  refine od_div (by decide) ?_
  rw [List.length_map, show ((cuts.length : Nat) : Int) / 2 = ((cuts.length / 2 : Nat) : Int) by push_cast; rfl]
  refine wb_cut (fun A => ∃ (size : Nat) (y8 y13 y14 : SV), A = ⟨[.dat (.list (ns.map .int)), .dat (.int (dg : Int)), .dat (.tuple [.int (n : Int), .tuple (E.map eD)]), .dat (.int (pk : Int)), .dat (.list (l.map ni)), .dat (.list (fired.map ni)), .dat (.int (ce : Int)), .dat (.list (cuts.map ni)), y8, .dat (.int (size : Int)), .any, .any, .any, y13, y14], []⟩ ∧ size ≤ 1000) (ws_if ?_) ?_
  · walk_at "es"
    refine od_div (by decide) ?_
    walk_at "es"
    refine ⟨fun _ => ?_, fun _ => ?_⟩
    · walk_at "asg"
      walk_at "es"
      refine od_div (by decide) ?_
      walk_at "es"
      rw [show (dg : Int) / 2304 % 5 = ((dg / 2304 % 5 : Nat) : Int) by push_cast; rfl]
      exact ⟨_, _, _, _, rfl, by omega⟩
    · walk_at "es"
      exact ⟨_, _, _, _, rfl, by omega⟩
  rintro A' ⟨size, y8, y13, y14, rfl, hsz⟩
  walk_at "asg"
  refine we_of_wl (wl_lst (wa_cons ?_))
  refine we_of_wl (wl_ty (T := "list") mli ?_)
  walk_at "es"
  refine cl_list ?_
  refine wa_cons ?_
  refine we_of_wl (wl_ty (T := "list") mli ?_)
  walk_at "es"
  refine cl_list ?_
  walk_at "es"
  have hcb : ∀ m ∈ cuts, m < 2 ^ 1000 := fun m hm => Nat.lt_of_lt_of_le (hc1 m hm) (Nat.pow_le_pow_right (by decide) (by omega))
  walk_at "asg"
  walk_at "es"
  refine ix_goL (at_zero rfl) ?_
  walk_at "es"
  refine ix_goL (atI_nat (j := 1) rfl) ?_
  walk_at "es"
  refine ⟨n, E, fired, size, cuts, rfl, by omega, fun v hv => by have := hf2 v hv; omega, by omega, hcb, ?_⟩
  dsimp only [RV.frz]
  walk_at "asg"
  walk_at "es"
  refine ⟨n, E, fired, size, cuts, rfl, hE, by omega, by omega, by omega, by omega, hc1, ?_⟩
  dsimp only [RV.frz]
  refine wb_cons (ws_if ?_)
  walk_at "es"
  refine od_neS' hr.units (shp_two fired cuts) (by decide) ?_
  walk_at "es"
  rw [decide_eq_true rfl]
  walk_at "es"
  refine wb_cons (ws_ret ?_)
  refine we_or ?_
  walk_at "es"
  refine ⟨fun h => ?_, fun h => ?_⟩
  · exact rfl
  · have hdue : shl E fired size cuts = true := by simpa using h
    refine we_or ?_
    walk_at "es"
    refine ⟨n, E, l, rfl, hg, ?_⟩
    dsimp only [RV.frz]
    walk_at "es"
    refine od_neD hr.units ((shp_nis _).shaped (by decide)) ((shp_nis fired).shaped (by decide)) ?_
    rw [eqv_nis]
    refine bool_go ?_
    refine ⟨fun h2 => ?_, fun h2 => ?_⟩
    · exact rfl
    · have he : odn n E l = fired := by simpa using h2
      walk_at "es"
      rw [List.length_map]
      rw [← he] at hdue
      rw [decide_eq_true (show ((size : Nat) : Int) ≤ ((l.length : Nat) : Int) by exact_mod_cast cuts_bound hg hc1 hdue)]
end
/-! ### what the top has written; the law's own head -/
theorem all_mk {l : PySem.W.OpenLaw} {w : World} {K : PySem.W.Frag} {h : Heap} {mg : Str → Option Value} {fa f0 f1 f2 f3 f4 f5 f6 f7 f8 f9 f10 f11 f12 : Addr} (X : K.In h) (G : h.Ns mainGlobals mg) (hfa : mg "law" = some (.ref fa))
    {od0 an0 od1 an1 od2 an2 od3 an3 od4 an4 od5 an5 od6 an6 od7 an7 od8 an8 od9 an9 od10 an10 od11 an11 od12 an12 : Option Addr} {sl0 sl1 sl2 sl3 sl4 sl5 sl6 sl7 sl8 sl9 sl10 sl11 sl12 : Array (Option Value)} {oc0 kV0 dc0 pm0 cd0 ct0 oc1 kV1 dc1 pm1 cd1 ct1 oc2 kV2 dc2 pm2 cd2 ct2 oc3 kV3 dc3 pm3 cd3 ct3 oc4 kV4 dc4 pm4 cd4 ct4 oc5 kV5 dc5 pm5 cd5 ct5 oc6 kV6 dc6 pm6 cd6 ct6 oc7 kV7 dc7 pm7 cd7 ct7 oc8 kV8 dc8 pm8 cd8 ct8 oc9 kV9 dc9 pm9 cd9 ct9 oc10 kV10 dc10 pm10 cd10 ct10 oc11 kV11 dc11 pm11 cd11 ct11 oc12 kV12 dc12 pm12 cd12 ct12 : Value}
    (a0 : PySem.W.nsIn K mainGlobals "_law_cell" = some (some (.ref f0))) (l0 : K.lookup f0 = some ⟨oc0, od0, .func (PySem.W.fnOf "_law_cell" "_law_cell" (defArgs s__law_cell) (defBody s__law_cell) (defScope s__law_cell) .none kV0 dc0 pm0 an0 cd0 ct0), sl0⟩) (c0 : PySem.W.codeIn K cd0 "_law_cell" = true) (k0 : PySem.W.keepIn K (.ref f0) = true)
    (a1 : PySem.W.nsIn K mainGlobals "_law_is_integer" = some (some (.ref f1))) (l1 : K.lookup f1 = some ⟨oc1, od1, .func (PySem.W.fnOf "_law_is_integer" "_law_is_integer" (defArgs s__law_is_integer) (defBody s__law_is_integer) (defScope s__law_is_integer) .none kV1 dc1 pm1 an1 cd1 ct1), sl1⟩) (c1 : PySem.W.codeIn K cd1 "_law_is_integer" = true) (k1 : PySem.W.keepIn K (.ref f1) = true)
    (a2 : PySem.W.nsIn K mainGlobals "_law_numbers" = some (some (.ref f2))) (l2 : K.lookup f2 = some ⟨oc2, od2, .func (PySem.W.fnOf "_law_numbers" "_law_numbers" (defArgs s__law_numbers) (defBody s__law_numbers) (defScope s__law_numbers) .none kV2 dc2 pm2 an2 cd2 ct2), sl2⟩) (c2 : PySem.W.codeIn K cd2 "_law_numbers" = true) (k2 : PySem.W.keepIn K (.ref f2) = true)
    (a3 : PySem.W.nsIn K mainGlobals "_law_graph" = some (some (.ref f3))) (l3 : K.lookup f3 = some ⟨oc3, od3, .func (PySem.W.fnOf "_law_graph" "_law_graph" (defArgs s__law_graph) (defBody s__law_graph) (defScope s__law_graph) .none kV3 dc3 pm3 an3 cd3 ct3), sl3⟩) (c3 : PySem.W.codeIn K cd3 "_law_graph" = true) (k3 : PySem.W.keepIn K (.ref f3) = true)
    (a4 : PySem.W.nsIn K mainGlobals "_law_odd" = some (some (.ref f4))) (l4 : K.lookup f4 = some ⟨oc4, od4, .func (PySem.W.fnOf "_law_odd" "_law_odd" (defArgs s__law_odd) (defBody s__law_odd) (defScope s__law_odd) .none kV4 dc4 pm4 an4 cd4 ct4), sl4⟩) (c4 : PySem.W.codeIn K cd4 "_law_odd" = true) (k4 : PySem.W.keepIn K (.ref f4) = true)
    (a5 : PySem.W.nsIn K mainGlobals "_law_leaves" = some (some (.ref f5))) (l5 : K.lookup f5 = some ⟨oc5, od5, .func (PySem.W.fnOf "_law_leaves" "_law_leaves" (defArgs s__law_leaves) (defBody s__law_leaves) (defScope s__law_leaves) .none kV5 dc5 pm5 an5 cd5 ct5), sl5⟩) (c5 : PySem.W.codeIn K cd5 "_law_leaves" = true) (k5 : PySem.W.keepIn K (.ref f5) = true)
    (a6 : PySem.W.nsIn K mainGlobals "weight" = some (some (.ref f6))) (l6 : K.lookup f6 = some ⟨oc6, od6, .func (PySem.W.fnOf "weight" "weight" (defArgs s_weight) (defBody s_weight) (defScope s_weight) .none kV6 dc6 pm6 an6 cd6 ct6), sl6⟩) (c6 : PySem.W.codeIn K cd6 "weight" = true) (k6 : PySem.W.keepIn K (.ref f6) = true)
    (a7 : PySem.W.nsIn K mainGlobals "parity" = some (some (.ref f7))) (l7 : K.lookup f7 = some ⟨oc7, od7, .func (PySem.W.fnOf "parity" "parity" (defArgs s_parity) (defBody s_parity) (defScope s_parity) .none kV7 dc7 pm7 an7 cd7 ct7), sl7⟩) (c7 : PySem.W.codeIn K cd7 "parity" = true) (k7 : PySem.W.keepIn K (.ref f7) = true)
    (a8 : PySem.W.nsIn K mainGlobals "mask_of" = some (some (.ref f8))) (l8 : K.lookup f8 = some ⟨oc8, od8, .func (PySem.W.fnOf "mask_of" "mask_of" (defArgs s_mask_of) (defBody s_mask_of) (defScope s_mask_of) .none kV8 dc8 pm8 an8 cd8 ct8), sl8⟩) (c8 : PySem.W.codeIn K cd8 "mask_of" = true) (k8 : PySem.W.keepIn K (.ref f8) = true)
    (a9 : PySem.W.nsIn K mainGlobals "times_left" = some (some (.ref f9))) (l9 : K.lookup f9 = some ⟨oc9, od9, .func (PySem.W.fnOf "times_left" "times_left" (defArgs s_times_left) (defBody s_times_left) (defScope s_times_left) .none kV9 dc9 pm9 an9 cd9 ct9), sl9⟩) (c9 : PySem.W.codeIn K cd9 "times_left" = true) (k9 : PySem.W.keepIn K (.ref f9) = true)
    (a10 : PySem.W.nsIn K mainGlobals "shows_least" = some (some (.ref f10))) (l10 : K.lookup f10 = some ⟨oc10, od10, .func (PySem.W.fnOf "shows_least" "shows_least" (defArgs s_shows_least) (defBody s_shows_least) (defScope s_shows_least) .none kV10 dc10 pm10 an10 cd10 ct10), sl10⟩) (c10 : PySem.W.codeIn K cd10 "shows_least" = true) (k10 : PySem.W.keepIn K (.ref f10) = true)
    (a11 : PySem.W.nsIn K mainGlobals "_law_cuts_show" = some (some (.ref f11))) (l11 : K.lookup f11 = some ⟨oc11, od11, .func (PySem.W.fnOf "_law_cuts_show" "_law_cuts_show" (defArgs s__law_cuts_show) (defBody s__law_cuts_show) (defScope s__law_cuts_show) .none kV11 dc11 pm11 an11 cd11 ct11), sl11⟩) (c11 : PySem.W.codeIn K cd11 "_law_cuts_show" = true) (k11 : PySem.W.keepIn K (.ref f11) = true)
    (a12 : PySem.W.nsIn K mainGlobals "law" = some (some (.ref f12))) (l12 : K.lookup f12 = some ⟨oc12, od12, .func (PySem.W.fnOf "law" "law" (defArgs s_law) (defBody s_law) (defScope s_law) .none kV12 dc12 pm12 an12 cd12 ct12), sl12⟩) (c12 : PySem.W.codeIn K cd12 "law" = true) (k12 : PySem.W.keepIn K (.ref f12) = true)
    (z_len : PySem.W.nsIn K mainGlobals "len" = some none)
    (z_isinstance : PySem.W.nsIn K mainGlobals "isinstance" = some none)
    (z_int : PySem.W.nsIn K mainGlobals "int" = some none)
    (z_bool : PySem.W.nsIn K mainGlobals "bool" = some none)
    (z_range : PySem.W.nsIn K mainGlobals "range" = some none)
    (z_abs : PySem.W.nsIn K mainGlobals "abs" = some none)
    (z_min : PySem.W.nsIn K mainGlobals "min" = some none)
    (z_max : PySem.W.nsIn K mainGlobals "max" = some none)
    (z_sorted : PySem.W.nsIn K mainGlobals "sorted" = some none)
    (z_tuple : PySem.W.nsIn K mainGlobals "tuple" = some none)
    (z_sum : PySem.W.nsIn K mainGlobals "sum" = some none)
    (z_any : PySem.W.nsIn K mainGlobals "any" = some none)
    (z_all : PySem.W.nsIn K mainGlobals "all" = some none)
    (z_list : PySem.W.nsIn K mainGlobals "list" = some none)
    : ∃ fd : FuncData, (∀ (s : Shared) (v : Value), BindsTo s fd ⟨[v], []⟩ [("script", v)]) ∧ ∀ base : Heap, K.In base → base.Ns mainGlobals mg → FnOk l.prog w K mg base CX0 4 fa fd ["script"] (spLaw K) := by
  have e := hfa.symm.trans (PySem.W.mg_of X G a12)
  cases e
  have F0 := fun_mk (st := s__law_cell) l0 c0 k0
  have B__law_cell := F0.binds (ps := ["script", "k"]) fun _ _ _ _ _ _ us hl => match us, hl with | [_, _], _ => rfl
  have M__law_cell : mg "_law_cell" = some (.ref f0) := PySem.W.mg_of X G a0
  have F1 := fun_mk (st := s__law_is_integer) l1 c1 k1
  have B__law_is_integer := F1.binds (ps := ["actual"]) fun _ _ _ _ _ _ us hl => match us, hl with | [_], _ => rfl
  have M__law_is_integer : mg "_law_is_integer" = some (.ref f1) := PySem.W.mg_of X G a1
  have F2 := fun_mk (st := s__law_numbers) l2 c2 k2
  have B__law_numbers := F2.binds (ps := ["script", "first", "most"]) fun _ _ _ _ _ _ us hl => match us, hl with | [_, _, _], _ => rfl
  have M__law_numbers : mg "_law_numbers" = some (.ref f2) := PySem.W.mg_of X G a2
  have F3 := fun_mk (st := s__law_graph) l3 c3 k3
  have B__law_graph := F3.binds (ps := ["numbers", "nodes"]) fun _ _ _ _ _ _ us hl => match us, hl with | [_, _], _ => rfl
  have M__law_graph : mg "_law_graph" = some (.ref f3) := PySem.W.mg_of X G a3
  have F4 := fun_mk (st := s__law_odd) l4 c4 k4
  have B__law_odd := F4.binds (ps := ["graph", "edges"]) fun _ _ _ _ _ _ us hl => match us, hl with | [_, _], _ => rfl
  have M__law_odd : mg "_law_odd" = some (.ref f4) := PySem.W.mg_of X G a4
  have F5 := fun_mk (st := s__law_leaves) l5 c5 k5
  have B__law_leaves := F5.binds (ps := ["graph", "at", "cut"]) fun _ _ _ _ _ _ us hl => match us, hl with | [_, _, _], _ => rfl
  have M__law_leaves : mg "_law_leaves" = some (.ref f5) := PySem.W.mg_of X G a5
  have F6 := fun_mk (st := s_weight) l6 c6 k6
  have B_weight := F6.binds (ps := ["mask"]) fun _ _ _ _ _ _ us hl => match us, hl with | [_], _ => rfl
  have M_weight : mg "weight" = some (.ref f6) := PySem.W.mg_of X G a6
  have F7 := fun_mk (st := s_parity) l7 c7 k7
  have B_parity := F7.binds (ps := ["mask"]) fun _ _ _ _ _ _ us hl => match us, hl with | [_], _ => rfl
  have M_parity : mg "parity" = some (.ref f7) := PySem.W.mg_of X G a7
  have F8 := fun_mk (st := s_mask_of) l8 c8 k8
  have B_mask_of := F8.binds (ps := ["numbers"]) fun _ _ _ _ _ _ us hl => match us, hl with | [_], _ => rfl
  have M_mask_of : mg "mask_of" = some (.ref f8) := PySem.W.mg_of X G a8
  have F9 := fun_mk (st := s_times_left) l9 c9 k9
  have B_times_left := F9.binds (ps := ["cuts", "edge"]) fun _ _ _ _ _ _ us hl => match us, hl with | [_, _], _ => rfl
  have M_times_left : mg "times_left" = some (.ref f9) := PySem.W.mg_of X G a9
  have F10 := fun_mk (st := s_shows_least) l10 c10 k10
  have B_shows_least := F10.binds (ps := ["graph", "fired", "size", "cuts"]) fun _ _ _ _ _ _ us hl => match us, hl with | [_, _, _, _], _ => rfl
  have M_shows_least : mg "shows_least" = some (.ref f10) := PySem.W.mg_of X G a10
  have F11 := fun_mk (st := s__law_cuts_show) l11 c11 k11
  have B__law_cuts_show := F11.binds (ps := ["graph", "free", "fired", "size", "cuts"]) fun _ _ _ _ _ _ us hl => match us, hl with | [_, _, _, _, _], _ => rfl
  have M__law_cuts_show : mg "_law_cuts_show" = some (.ref f11) := PySem.W.mg_of X G a11
  have F12 := fun_mk (st := s_law) l12 c12 k12
  have g_len : mg "len" = none := PySem.W.mg_none_of X G z_len
  have g_isinstance : mg "isinstance" = none := PySem.W.mg_none_of X G z_isinstance
  have g_int : mg "int" = none := PySem.W.mg_none_of X G z_int
  have g_bool : mg "bool" = none := PySem.W.mg_none_of X G z_bool
  have g_range : mg "range" = none := PySem.W.mg_none_of X G z_range
  have g_abs : mg "abs" = none := PySem.W.mg_none_of X G z_abs
  have g_min : mg "min" = none := PySem.W.mg_none_of X G z_min
  have g_max : mg "max" = none := PySem.W.mg_none_of X G z_max
  have g_sorted : mg "sorted" = none := PySem.W.mg_none_of X G z_sorted
  have g_tuple : mg "tuple" = none := PySem.W.mg_none_of X G z_tuple
  have g_sum : mg "sum" = none := PySem.W.mg_none_of X G z_sum
  have g_any : mg "any" = none := PySem.W.mg_none_of X G z_any
  have g_all : mg "all" = none := PySem.W.mg_none_of X G z_all
  have g_list : mg "list" = none := PySem.W.mg_none_of X G z_list
  refine ⟨PySem.W.fnOf "law" "law" (defArgs s_law) (defBody s_law) (defScope s_law) .none kV12 dc12 pm12 an12 cd12 ct12, fun s v => .of_eq rfl, fun base _ _ => ?_⟩
  have C__law_cell : Callee l.prog w K mg base 1 "_law_cell" 2 spCell := ⟨⟨_, _, _, ok_cell F0 g_len, M__law_cell, F0.kp, B__law_cell⟩, fun as Q Q' k ⟨ns, n, e, q⟩ => ⟨ns, n, e, fun v => k _ (q v)⟩⟩
  have C__law_is_integer : Callee l.prog w K mg base 1 "_law_is_integer" 1 spIsInt := ⟨⟨_, _, _, ok_isint F1 g_isinstance g_int g_bool, M__law_is_integer, F1.kp, B__law_is_integer⟩, fun as Q Q' k ⟨i, e, q⟩ => ⟨i, e, k _ q⟩⟩
  have C__law_numbers : Callee l.prog w K mg base 1 "_law_numbers" 3 spNums := ⟨⟨_, _, _, ok_nums F2 g_range g_len g_abs g_int, M__law_numbers, F2.kp, B__law_numbers⟩, fun as Q Q' k ⟨ns, a, m, e, h1, h2, h3, q⟩ => ⟨ns, a, m, e, h1, h2, h3, fun l a1 a2 => k _ (q l a1 a2)⟩⟩
  have C__law_graph : Callee l.prog w K mg base 1 "_law_graph" 2 spGraph := ⟨⟨_, _, _, ok_graph F3 g_min g_max g_int g_sorted g_tuple, M__law_graph, F3.kp, B__law_graph⟩, fun as Q Q' k ⟨l, n, e, h1, h2, h3, q⟩ => ⟨l, n, e, h1, h2, h3, fun E a1 a2 => k _ (q E a1 a2)⟩⟩
  have C__law_odd : Callee l.prog w K mg base 1 "_law_odd" 2 spOdn := ⟨⟨_, _, _, ok_lodd F4 g_range g_int, M__law_odd, F4.kp, B__law_odd⟩, fun as Q Q' k ⟨n, E, l, e, h, q⟩ => ⟨n, E, l, e, h, k _ q⟩⟩
  have C__law_leaves : Callee l.prog w K mg base 1 "_law_leaves" 3 spLv := ⟨⟨_, _, _, ok_lv F5, M__law_leaves, F5.kp, B__law_leaves⟩, fun as Q Q' k ⟨n, E, at', m, e, h0, h1, h2, h3, q⟩ => ⟨n, E, at', m, e, h0, h1, h2, h3, k _ q⟩⟩
  have C_weight : Callee l.prog w K mg base 1 "weight" 1 spWeight := ⟨⟨_, _, _, ok_weight F6, M_weight, F6.kp, B_weight⟩, fun as Q Q' k ⟨n, e, h, q⟩ => ⟨n, e, h, k _ q⟩⟩
  have C_parity : Callee l.prog w K mg base 2 "parity" 1 spParity := ⟨⟨_, _, _, ok_parity F7 C_weight, M_parity, F7.kp, B_parity⟩, fun as Q Q' k ⟨n, e, h, q⟩ => ⟨n, e, h, k _ q⟩⟩
  have C_mask_of : Callee l.prog w K mg base 1 "mask_of" 1 spMaskL := ⟨⟨_, _, _, ok_maskL F8, M_mask_of, F8.kp, B_mask_of⟩, fun as Q Q' k ⟨ks, e, h, q⟩ => ⟨ks, e, h, k _ q⟩⟩
  have C_times_left : Callee l.prog w K mg base 1 "times_left" 2 spTml := ⟨⟨_, _, _, ok_tml F9 g_sum, M_times_left, F9.kp, B_times_left⟩, fun as Q Q' k ⟨cuts, e, h0, h1, q⟩ => ⟨cuts, e, h0, h1, k _ q⟩⟩
  have C_shows_least : Callee l.prog w K mg base 3 "shows_least" 4 spShl := ⟨⟨_, _, _, ok_shl F10 g_len g_any g_all C_mask_of C_parity C_times_left, M_shows_least, F10.kp, B_shows_least⟩, fun as Q Q' k ⟨n, E, f, s, c, h0, h1, h2, h3, h4, q⟩ => ⟨n, E, f, s, c, h0, h1, h2, h3, h4, k _ q⟩⟩
  have C__law_cuts_show : Callee l.prog w K mg base 2 "_law_cuts_show" 5 spLcs := ⟨⟨_, _, _, ok_lcs F11 g_range g_len g_isinstance g_list C__law_is_integer C__law_leaves, M__law_cuts_show, F11.kp, B__law_cuts_show⟩, fun as Q Q' k ⟨n, E, f, s, c, h0, h1, h2, h3, h4, h5, h6, q⟩ => ⟨n, E, f, s, c, h0, h1, h2, h3, h4, h5, h6, k _ q⟩⟩
  exact ok_law F12 g_range g_len g_list g_abs g_int g_isinstance g_bool C__law_cell C__law_numbers C__law_graph C__law_odd C_shows_least C__law_cuts_show
end Pf
open PySem PySem.W PyProof.Rows
set_option maxHeartbeats 0 in
theorem PySem.Challenge.cw_bastion_k51_judges_of_joins_holds : PySem.Challenge.rw_bastion_k51_judges_of_joins.Holds := by
  w_on; o_law; k_head; (case hw => w_witness2)
  k_fill
  refine L2.walk_of (l := PySem.Challenge.rw_bastion_k51_judges_of_joins) (n := 63) (k := 4) (x := "script") (CX := fun _ => L2.CX0) (sp := fun w => Eng.spLaw _) rfl (by decide) rfl ⟨rfl, by decide, by decide⟩ (fun w h Y => PySem.W.kIn_of Y) ?F (fun _ _ a ns hl _ hS => ⟨a, ns, rfl, hS, hl, fun _ => rfl⟩) (fun _ _ _ _ _ h => h)
  case F =>
    intro w mg fa h KX G hmg
    refine' Pf.all_mk KX G hmg ?a0 ?l0 ?c0 ?k0 ?a1 ?l1 ?c1 ?k1 ?a2 ?l2 ?c2 ?k2 ?a3 ?l3 ?c3 ?k3 ?a4 ?l4 ?c4 ?k4 ?a5 ?l5 ?c5 ?k5 ?a6 ?l6 ?c6 ?k6 ?a7 ?l7 ?c7 ?k7 ?a8 ?l8 ?c8 ?k8 ?a9 ?l9 ?c9 ?k9 ?a10 ?l10 ?c10 ?k10 ?a11 ?l11 ?c11 ?k11 ?a12 ?l12 ?c12 ?k12 ?z_len ?z_isinstance ?z_int ?z_bool ?z_range ?z_abs ?z_min ?z_max ?z_sorted ?z_tuple ?z_sum ?z_any ?z_all ?z_list
    (case a0 => k_is); (case l0 => k_is); (case c0 => k_is); (case k0 => k_is); (case a1 => k_is); (case l1 => k_is); (case c1 => k_is); (case k1 => k_is); (case a2 => k_is); (case l2 => k_is); (case c2 => k_is); (case k2 => k_is); (case a3 => k_is); (case l3 => k_is); (case c3 => k_is); (case k3 => k_is); (case a4 => k_is); (case l4 => k_is); (case c4 => k_is); (case k4 => k_is); (case a5 => k_is); (case l5 => k_is); (case c5 => k_is); (case k5 => k_is); (case a6 => k_is); (case l6 => k_is); (case c6 => k_is); (case k6 => k_is); (case a7 => k_is); (case l7 => k_is); (case c7 => k_is); (case k7 => k_is); (case a8 => k_is); (case l8 => k_is); (case c8 => k_is); (case k8 => k_is); (case a9 => k_is); (case l9 => k_is); (case c9 => k_is); (case k9 => k_is); (case a10 => k_is); (case l10 => k_is); (case c10 => k_is); (case k10 => k_is); (case a11 => k_is); (case l11 => k_is); (case c11 => k_is); (case k11 => k_is); (case a12 => k_is); (case l12 => k_is); (case c12 => k_is); (case k12 => k_is); (case z_len => k_is); (case z_isinstance => k_is); (case z_int => k_is); (case z_bool => k_is); (case z_range => k_is); (case z_abs => k_is); (case z_min => k_is); (case z_max => k_is); (case z_sorted => k_is); (case z_tuple => k_is); (case z_sum => k_is); (case z_any => k_is); (case z_all => k_is); (case z_list => k_is)
