import PyProof.Rows.All
import Wide.All
import OpenK.AllK
import Wide.FinOn
import HandS.ForMost
import HandS.Wide
import HandS.IsInst
import HandS.Defaults
import HandS.Codes
import HandS.Style
import PyProof.ReprRoads
import PyProof.ReprLen
import HandS.Zip
import HandS.NoneIn
import HandS.TupAny
import HandS.DictTup
import HandS.SortRule
import HandS.SortOrd
import HandS.ListItems
import KE.KDictWalk
import HandS.SortInts
import KE.KeyNested
import PyProof.DictRoadsH
import HandS.Deep
import HandS.SetFor
import HandS.RevRange
import HandS.Walk
import PySem.Challenge.RW_unlikepairs_k22_many_rounds
set_option Elab.async false
set_option linter.all false
set_option maxRecDepth 100000
set_option maxHeartbeats 4000000
namespace UP
open PySem PySem.Spec PyProof.Rows L2

/-! ### a def that keeps a promise, by its name -/
section
variable (P : Program) (w : World) (K : PySem.W.Frag) (mg : Str → Option Value) (base : Heap)
def Has (k : Nat) (x : Str) (ps : List Str) (sp : Sp) : Prop :=
  ∃ f fd, mg x = some (.ref f) ∧ PySem.W.keepIn K (.ref f) = true ∧ Binds K fd ps [] ∧ FnOk P w K mg base CX0 k f fd ps sp
def Df (x : Str) (st : Stmt) : Prop := ∃ f fd, mg x = some (.ref f) ∧ Fun K x x st f fd
end
theorem Df.of {K : PySem.W.Frag} {mg : Str → Option Value} {x : Str} {st : Stmt} {f : Addr} {fd : FuncData} (g : mg x = some (.ref f)) (F : Fun K x x st f fd) : Df K mg x st := ⟨f, fd, g, F⟩
section
variable {P : Program} {w : World} {K : PySem.W.Frag} {mg : Str → Option Value} {base : Heap}
theorem has_of {x : Str} {st : Stmt} {ps N : List Str} {k : Nat} {sp : Sp} (D : Df K mg x st) (S : FnScope N ps (defScope st))
    (hb : ∀ (kV doc pm : Value) (an : Option Addr) (cdv ct : Value) (us : List Value), us.length = ps.length → bindArgs (PySem.W.fnOf x x (defArgs st) (defBody st) (defScope st) .none kV doc pm an cdv ct) ⟨us, []⟩ = pure (ps.zip us))
    (len : ∀ vs H Q E, sp vs H Q E → vs.length = ps.length)
    (body : ∀ (f : Addr) (cdv : Value) (A : Around) (outer : List Env) (s : Shared) (H : Hp) (vs : List V) (Q : VK) (E : XK), Room k (A.deeper (envOfC x (defScope st) s.heap.objs.size f cdv)) → sp vs H Q E →
      ∃ t, PSs (cxOf CX0 P w K mg base N x (defScope st) f cdv A outer s H E).nox (defBody st) t ∧ t { nx := fun _ H' => Q .non H', rt := Q } (start N vs) H) :
    Has P w K mg base (k + 1) x ps sp := by
  obtain ⟨f, fd, g, F⟩ := D
  exact ⟨f, fd, g, F.kp, F.binds hb, F.ok S len fun cdv A outer s H vs Q E hr h => body f cdv A outer s H vs Q E hr h⟩
theorem Has.weak {x : Str} {ps : List Str} {k : Nat} {sp sp' : Sp} (h : Has P w K mg base k x ps sp) (e : sp = sp') : Has P w K mg base k x ps sp' := e ▸ h
end
section
variable {X : Cx}
theorem pe_callH {k : Nat} {x : Str} {ps : List Str} {sp : Sp} {p pos : Pos} {e : Expr} {es : List Expr} {t : TA} (G : Has X.prog X.w X.K X.mg X.base k x ps sp) (hr : Room k X.A) (hg : Gl X x) (ha : PA X (e :: es) t)
    (hdb : (x == ("__debug__" : Str)) = false := by decide) (he : starEach (e :: es) X.env = (false, eval e X.env) :: starEach es X.env := by rfl) (hpl : (backTo pos (starEach es X.env)).any (·.1) = false := by rfl) :
    PE X (.Call (.Name x p) (e :: es) [] pos) (tCall sp [] E0 t) := by
  obtain ⟨f, fd, g, kp, b, F⟩ := G
  exact pe_call F hr hg g kp b .nil pass0 ha hdb he hpl
theorem pe_glI {x : Str} {i : Int} {pos : Pos} (h : ∃ t, X.mg x = some (.int i t)) (hg : Gl X x) (hd : (x == ("__debug__" : Str)) = false := by decide) : PE X (.Name x pos) (tC (.int i)) := by
  obtain ⟨t, h⟩ := h
  exact pe_glob hg h ⟨t, rfl⟩ hd
end

/-! ### heaps -/
theorem same_upd {H : Hp} {p : Addr} {o : HO} (h : H p = none) : Same H (upd H p o) := fun b x e => by
  rw [upd_ne (ne_of_none e h)]
  exact e
/-- all but the object at sp is as it was -/
def But (sp : Addr) (H H' : Hp) : Prop := ∀ b o, b ≠ sp → H b = some o → H' b = some o
theorem Same.but {sp : Addr} {H H' : Hp} (h : Same H H') : But sp H H' := fun b o _ e => h b o e
theorem But.trans {sp : Addr} {H H1 H2 : Hp} (a : But sp H H1) (b : But sp H1 H2) : But sp H H2 := fun c o n e => b c o n (a c o n e)
theorem But.refl {sp : Addr} {H : Hp} : But sp H H := fun _ _ _ e => e
theorem but_upd {sp : Addr} {H : Hp} {o : HO} : But sp H (upd H sp o) := fun b x n e => by
  rw [upd_ne n]
  exact e
theorem small {n : Nat} (h : n ≤ 1000000) : n < sizeLine := Nat.lt_of_le_of_lt h (by decide)
theorem smallE {n : Nat} (h : n ≤ 1000000) : n ≤ sizeLine := Nat.le_of_lt (small h)

/-! ### runs and states -/
abbrev Run := Str × Int
def RunV (H : Hp) (v : V) (r : Run) : Prop := ∃ t, v = .ref t ∧ H t = some (.tup [.str r.1, .int r.2])
def Runs (H : Hp) (a : Addr) (rs : List Run) : Prop := ∃ xs, H a = some (.lst xs) ∧ Paired (RunV H) xs rs
def StV (H : Hp) (v : V) : Option Run → Prop
  | none => v = .non
  | some r => RunV H v r
theorem RunV.same {H H' : Hp} {v : V} {r : Run} (s : Same H H') (h : RunV H v r) : RunV H' v r := by
  obtain ⟨t, e, h⟩ := h
  exact ⟨t, e, s _ _ h⟩
theorem Paired.len {α β : Type} {F : α → β → Prop} : ∀ {l₁ : List α} {l₂ : List β}, Paired F l₁ l₂ → l₁.length = l₂.length
  | _, _, .nil => rfl
  | _, _, .cons _ t => congrArg Nat.succ (Paired.len t)
theorem Paired.at {α β : Type} {F : α → β → Prop} : ∀ {l₁ : List α} {l₂ : List β} {i : Nat} {x : α}, Paired F l₁ l₂ → l₁[i]? = some x → ∃ y, l₂[i]? = some y ∧ F x y
  | _, _, _, _, .nil, h => by simp at h
  | _, _, 0, _, .cons h _, e => by
    simp only [List.getElem?_cons_zero, Option.some.injEq] at e
    subst e
    exact ⟨_, by simp, h⟩
  | _, _, i + 1, _, .cons _ t, e => by
    simp only [List.getElem?_cons_succ] at e ⊢
    exact Paired.at t e
theorem Paired.at' {α β : Type} {F : α → β → Prop} : ∀ {l₁ : List α} {l₂ : List β} {i : Nat} {y : β}, Paired F l₁ l₂ → l₂[i]? = some y → ∃ x, l₁[i]? = some x ∧ F x y
  | _, _, _, _, .nil, h => by simp at h
  | _, _, 0, _, .cons h _, e => by
    simp only [List.getElem?_cons_zero, Option.some.injEq] at e
    subst e
    exact ⟨_, by simp, h⟩
  | _, _, i + 1, _, .cons _ t, e => by
    simp only [List.getElem?_cons_succ] at e ⊢
    exact Paired.at' t e
theorem Paired.imp {α β : Type} {F G : α → β → Prop} (f : ∀ a b, F a b → G a b) : ∀ {l₁ : List α} {l₂ : List β}, Paired F l₁ l₂ → Paired G l₁ l₂
  | _, _, .nil => .nil
  | _, _, .cons h t => .cons (f _ _ h) (Paired.imp f t)
theorem Paired.app {α β : Type} {F : α → β → Prop} : ∀ {l₁ m₁ : List α} {l₂ m₂ : List β}, Paired F l₁ l₂ → Paired F m₁ m₂ → Paired F (l₁ ++ m₁) (l₂ ++ m₂)
  | _, _, _, _, .nil, h => h
  | _, _, _, _, .cons h t, k => .cons h (Paired.app t k)
theorem Paired.dropp {α β : Type} {F : α → β → Prop} : ∀ {l₁ : List α} {l₂ : List β} (n : Nat), Paired F l₁ l₂ → Paired F (l₁.drop n) (l₂.drop n)
  | _, _, 0, h => h
  | _, _, n + 1, .nil => .nil
  | _, _, n + 1, .cons _ t => by
    simp only [List.drop_succ_cons]
    exact Paired.dropp n t
theorem Paired.takep {α β : Type} {F : α → β → Prop} : ∀ {l₁ : List α} {l₂ : List β} (n : Nat), Paired F l₁ l₂ → Paired F (l₁.take n) (l₂.take n)
  | _, _, 0, h => by simp only [List.take_zero]; exact .nil
  | _, _, n + 1, .nil => .nil
  | _, _, n + 1, .cons h t => by
    simp only [List.take_succ_cons]
    exact .cons h (Paired.takep n t)
theorem Runs.same {H H' : Hp} {a : Addr} {rs : List Run} (s : Same H H') (h : Runs H a rs) : Runs H' a rs := by
  obtain ⟨xs, e, p⟩ := h
  exact ⟨xs, s _ _ e, Paired.imp (fun _ _ => RunV.same s) p⟩
theorem StV.same {H H' : Hp} {v : V} {st : Option Run} (s : Same H H') (h : StV H v st) : StV H' v st := by
  cases st with
  | none => exact h
  | some r => exact RunV.same s h
/-- the spring: a list of three ints -/
def Spr (H : Hp) (sp : Addr) : Prop := ∃ d s c : Int, H sp = some (.lst [.int d, .int s, .int c]) ∧ 0 ≤ d ∧ d.natAbs < 2 ^ 20000 ∧ 0 ≤ s ∧ s < 2305843009213693951
theorem RunV.but {H H' : Hp} {sp : Addr} {v : V} {r : Run} (z : Spr H sp) (s : But sp H H') (h : RunV H v r) : RunV H' v r := by
  obtain ⟨t, e, h⟩ := h
  obtain ⟨_, _, _, hs, _⟩ := z
  exact ⟨t, e, s _ _ (ne_of h hs (by intro q; cases q)) h⟩
theorem Runs.ne {H : Hp} {sp a : Addr} {rs : List Run} (z : Spr H sp) (h : Runs H a rs) : a ≠ sp := by
  obtain ⟨xs, e, p⟩ := h
  obtain ⟨d, s, c, hs, _⟩ := z
  refine ne_of e hs fun q => ?_
  have q := HO.lst.inj q
  subst q
  cases p with
  | cons h _ =>
    obtain ⟨t, e, _⟩ := h
    cases e
theorem Runs.but {H H' : Hp} {sp a : Addr} {rs : List Run} (z : Spr H sp) (s : But sp H H') (h : Runs H a rs) : Runs H' a rs := by
  have n := Runs.ne z h
  obtain ⟨xs, e, p⟩ := h
  exact ⟨xs, s _ _ n e, Paired.imp (fun _ _ => RunV.but z s) p⟩
theorem StV.but {H H' : Hp} {sp : Addr} {v : V} {st : Option Run} (z : Spr H sp) (s : But sp H H') (h : StV H v st) : StV H' v st := by
  cases st with
  | none => exact h
  | some r => exact RunV.but z s h
theorem Spr.same {H H' : Hp} {sp : Addr} (z : Spr H sp) (s : Same H H') : Spr H' sp := by
  obtain ⟨d, e, c, hs, r⟩ := z
  exact ⟨d, e, c, s _ _ hs, r⟩
def KindOk (s : Str) : Prop := 1 ≤ s.length ∧ s.length ≤ 8 ∧ ∀ c ∈ s.cps.toList, 97 ≤ c ∧ c ≤ 122
def RunOk (r : Run) : Prop := KindOk r.1 ∧ 1 ≤ r.2 ∧ r.2 ≤ 1000000000000000000000000000000
def Alt (rs : List Run) : Prop := ∀ (i : Nat) (x y : Run), rs[i]? = some x → rs[i + 1]? = some y → x.1 ≠ y.1
def SeqOk (rs : List Run) : Prop := rs.length ≤ 400 ∧ (∀ r ∈ rs, RunOk r) ∧ Alt rs
end UP

set_option Elab.async false
set_option linter.all false
set_option maxRecDepth 100000
set_option maxHeartbeats 4000000
namespace UP
open PySem PySem.Spec PyProof.Rows L2
/-! ### repr of plain data, where no other repr is under way -/
def rRepr (K : PySem.W.Frag) : List V → Hp → VK → Prop := fun xs H Q => ∃ (a : Addr) (d : PyData), xs = [.ref a] ∧ Dp K H (.ref a) d ∧ d.showable = true ∧ SeqAt.shaped d = true ∧ d.shown.length ≤ sizeLine ∧ Q (.str d.shown) H
theorem call_reprD {X : Cx} (hg : X.A.guards = some []) (hu : X.A.units + 70 < cLine) : CallR X (.builtin "repr") (rRepr X.K) := by
  intro pins s σ H xs us Q I r h
  obtain ⟨a, d, rfl, dp, sh, sp, sz, q⟩ := h
  obtain ⟨u, rfl, ru⟩ := vals1 r
  cases (show u = Value.ref a from ru)
  obtain ⟨as, rd⟩ := Dp.reads I d (.ref a) (.ref a) dp rfl
  have dd := SeqAt.depth_of_shaped sp
  refine repr_of_reads' rd sh (PyData.noDict_hsm (PyData.hasDict_of_canLay d (SeqAt.canLay_of_shaped sp))) hg (by omega) (fun _ _ e => e) (fun h' u tk hk => ?_) sz
  exact ⟨.str d.shown, H, I.kept (t' := tk) hk, ⟨u, rfl⟩, q⟩
/-! ### the law's own call, around it nothing -/
structure FnC (P : Program) (w : World) (K : PySem.W.Frag) (mg : Str → Option Value) (base : Heap) (f : Addr) (fd : FuncData) (ps : List Str) (sp : Sp) : Prop where
  go : ∀ (out : List Env) (s : Shared) (H : Hp) (args : Args) (us : List Value) (vs : List V) (Q : VK) (E : XK), Env0 P w K mg base callerA out s H → BindsTo s fd args (ps.zip us) → Vals vs us → sp vs H Q E →
    codeAny (model P w) callerA (.call (.ref f) args) (CR CX0 out P w H s Q E) s
theorem callerA_room : Room 8 callerA := ⟨rfl, by decide, by decide⟩
section
variable {P : Program} {w : World} {K : PySem.W.Frag} {mg : Str → Option Value} {base : Heap}
theorem fnC_of {x : Str} {st : Stmt} {f : Addr} {fd : FuncData} {ps N : List Str} {sp : Sp} (F : Fun K x x st f fd) (S : FnScope N ps (defScope st)) (len : ∀ vs H Q E, sp vs H Q E → vs.length = ps.length)
    (body : ∀ (cdv : Value) (out : List Env) (s : Shared) (H : Hp) (vs : List V) (Q : VK) (E : XK), Room 7 (callerA.deeper (envOfC x (defScope st) s.heap.objs.size f cdv)) → sp vs H Q E →
      ∃ t, PSs (cxOf CX0 P w K mg base N x (defScope st) f cdv callerA out s H E).nox (defBody st) t ∧ t { nx := fun _ H' => Q .non H', rt := Q } (start N vs) H) : FnC P w K mg base f fd ps sp := by
  obtain ⟨oc, od, kV, doc, pm, an, cdv, ct, osl, rfl, lk, hcd⟩ := F.ex
  refine ⟨fun out s H args us vs Q E e0 hb rv hsp => ?_⟩
  have inS : K.In s.heap := e0.mod.kin.keeps fun b o z => (e0.bs b o z).1
  have noL : s.heap.NoLimit := e0.mod.nolimit.keeps fun b o z => (e0.bs b o z).1
  have kinds : ∀ y ∈ ps.zip us, (defScope st).names.lookup y.1 = some .local ∨ ((defScope st).names.lookup y.1 = some .cell ∧ ((cellsFrom (s.heap.objs.size + 1) (defScope st).names []).lookup y.1).isSome = true) := by
    intro y hy
    rcases S.par y.1 (List.of_mem_zip (a := y.1) (b := y.2) hy).1 with z | z
    · exact Or.inl z
    · exact Or.inr ⟨z, PySem.W.cellsFrom_some _ _ _ (Or.inl z)⟩
  refine codeAny_call_function callerA_room.depth (inS _ _ lk) rfl S.co S.gen rfl (PySem.W.codeRec_of inS hcd) (hb _ _ _ _ ?_)
  refine wpAny_newFunctionEnv_cells S.kind kinds fun env he s1 inC => ?_
  subst he
  refine ⟨noL.keeps inC.toInCall.keep, codeAny_func ?_⟩
  obtain ⟨t, ht0, hq⟩ := body cdv out s H vs Q E (callerA_room.deeper _) hsp
  have ht := PSs.nox ht0
  have I0 : Inv (cxOf CX0 P w K mg base N x (defScope st) f cdv callerA out s H E) [] (start N vs) H s1 := inv_start S rfl e0 (len _ _ _ _ hsp) rv inC
  refine wpAny_mono (ht.run [] s1 (start N vs) H _ I0 hq) (fun fl s2 h2 => ?_) fun _ _ z => z
  cases fl with
  | next =>
    obtain ⟨σ2, H2, J, q2⟩ := h2
    exact ⟨V.non, H2, J.os, J.bare, J.base, J.hok, rfl, q2⟩
  | ret u =>
    obtain ⟨v, σ2, H2, J, rv2, q2⟩ := h2
    exact ⟨v, H2, J.os, J.bare, J.base, J.hok, rv2, q2⟩
  | brk =>
    obtain ⟨_, _, _, z⟩ := h2
    exact z.elim
  | cont =>
    obtain ⟨_, _, _, z⟩ := h2
    exact z.elim
end
/-- the heap that holds the script alone, locked -/
def oneH (a : Addr) (o : Obj) (xs : List V) : Hp := fun b => if b = a then some (.frz o (.lst xs)) else none
theorem run_law {P : Program} {w : World} {K : PySem.W.Frag} {mg mb : Str → Option Value} {fa a : Addr} {fd : FuncData} {x : Str} {sp : Sp} {s : Shared} {vs : List Value} {ns : List Int}
    (kx : K.In s.heap) (gns : s.heap.Ns mainGlobals mg) (bns : s.heap.Ns builtinsNs mb) (bb : ∀ y : Str, y ≠ "__name__" → mb y = bootBuiltins y) (nl : s.heap.NoLimit) (gens : s.gens = #[])
    (ob : s.heap.get? a = some { cls := .type "list", data := .seq vs.toArray }) (hin : IntsAre vs ns) (len : ns.length ≤ sizeLine) (F : ∀ base : Heap, K.In base → base.Ns mainGlobals mg → FnC P w K mg base fa fd [x] sp)
    (bind : ∀ (s : Shared) (u : Value), BindsTo s fd ⟨[u], []⟩ [(x, u)]) (hsp : ∀ H : Hp, SqL K H a (ns.map V.int) → sp [.ref a] H (fun v _ => v = .bl true) fun _ _ _ => False) :
    codeAny (model P w) callerA (.call (.ref fa) ⟨[.ref a], []⟩) (fun r s' => r = .ok (.ret (.bool true)) ∧ OldK s.heap s'.heap ∧ s'.os = s.os ∧ AllBare s'.gens) s := by
  have rel := vals_ints hin
  have step : ∀ H : Hp, (H = (fun _ => none) ∨ (H = oneH a { cls := .type "list", data := .seq vs.toArray } (ns.map V.int) ∧ K.lookup a = none)) → SqL K H a (ns.map V.int) → HOk P w H s.heap →
      codeAny (model P w) callerA (.call (.ref fa) ⟨[.ref a], []⟩) (fun r s' => r = .ok (.ret (.bool true)) ∧ OldK s.heap s'.heap ∧ s'.os = s.os ∧ AllBare s'.gens) s := by
    intro H hH hS hok
    have only : ∀ b u, H b = some u → b = a ∧ u = .frz { cls := .type "list", data := .seq vs.toArray } (.lst (ns.map V.int)) ∧ K.lookup a = none := by
      intro b u e
      rcases hH with z | ⟨z, z2⟩
      · rw [z] at e
        cases e
      · rw [z] at e
        by_cases hb : b = a
        · have e := (if_pos hb).symm.trans e
          cases e
          exact ⟨hb, rfl, z2⟩
        · have e := (if_neg hb).symm.trans e
          cases e
    have free : ∀ {b : Addr} {o : Obj}, s.heap.get? b = some o → (b = a → False) → (hidT s.heap H).get? b = some o := by
      intro b o e n
      refine hidT_get e ?_
      cases q : H b with
      | none => rfl
      | some u => exact (n (only b u q).1).elim
    have nss : ∀ {b : Addr} {m : Str → Option Value}, s.heap.Ns b m → (hidT s.heap H).Ns b m := by
      intro b m ⟨o, es, ep, e, d, r⟩
      refine ⟨o, es, ep, free e fun z => ?_, d, r⟩
      subst z
      rw [ob] at e
      cases e
      cases d
    have kb : K.In (hidT s.heap H) := by
      intro b o e
      refine hidT_get (kx b o e) ?_
      cases q : H b with
      | none => rfl
      | some u =>
        obtain ⟨z1, _, z2⟩ := only b u q
        rw [z1, z2] at e
        cases e
    have md : Mod K mg (hidT s.heap H) := ⟨kb, nss gns, ⟨mb, nss bns, bb⟩, by obtain ⟨mc, h1, h2⟩ := nl; exact ⟨mc, nss h1, h2⟩⟩
    have env : Env0 P w K mg (hidT s.heap H) callerA [] s H := ⟨rfl, md, fun b o e => of_hidT e, Nat.le_of_eq (hidT_size _ _), trivial, (fun b hb => by cases hb), hok, .of_eq gens⟩
    refine codeAny_mono ((F _ kb (nss gns)).go [] s H ⟨[.ref a], []⟩ [.ref a] [.ref a] _ _ env (bind s (.ref a)) (.cons rfl .nil) (hsp H hS)) fun r s' h => ?_
    cases r with
    | error e => exact h.elim
    | ok fl =>
      cases fl with
      | next => exact h.elim
      | brk => exact h.elim
      | cont => exact h.elim
      | ret u =>
        obtain ⟨v, H', o1, o2, un, hok', rv, q⟩ := h
        have q : v = .bl true := q
        subst q
        cases (show u = Value.bool true from rv)
        refine ⟨rfl, OldK.of_keep fun b o e => ?_, o1, o2⟩
        cases q : H b with
        | none => exact un.keep b o e q (fun z => by cases z) (fun z => by cases z)
        | some u =>
          obtain ⟨_, z, _⟩ := only b u q
          subst z
          obtain ⟨e1, _⟩ := hok b _ q
          obtain ⟨e2, _⟩ := hok' b _ (un.frzs b _ _ q)
          rw [e] at e1
          cases e1
          exact e2
  cases hk : K.lookup a with
  | some o =>
    have e := kx a o hk
    rw [ob] at e
    cases e
    refine step (fun _ => none) (.inl rfl) (.inr ⟨_, vs.toArray, _, hk, rfl, rfl, rfl, ?_, by simpa using rel⟩) fun b u z => by cases z
    rw [List.size_toArray, hin.length]
    exact len
  | none =>
    have at_a : oneH a { cls := .type "list", data := .seq vs.toArray } (ns.map V.int) a = some (.frz { cls := .type "list", data := .seq vs.toArray } (.lst (ns.map V.int))) := if_pos rfl
    refine step _ (.inr ⟨rfl, hk⟩) (.inl (.inr ⟨_, at_a⟩)) fun b u z => ?_
    by_cases hb : b = a
    · subst hb
      rw [at_a] at z
      cases z
      exact ⟨ob, by rw [List.length_map]; exact len, vs, _, rel, ob⟩
    · have z := (if_neg hb).symm.trans z
      cases z
theorem walkC {l : PySem.W.OpenLaw} {n : Nat} {q : Program} {loose : List Str} {XP : (Str → Option Value) → Heap → Prop} {YP : World → Heap → Prop} {d : DefRec} {K : Params → PySem.W.Frag} {sp : World → Sp} {x : Str}
    (hn : l.most = some n) (n2 : n ≤ sizeLine) (df : d.params.defaults = []) (hY : ∀ (w : World) (h : Heap), YP w h → (K w.params).In h)
    (F : ∀ (w : World) (mg : Str → Option Value) (fa : Addr) (h : Heap), (K w.params).In h → h.Ns mainGlobals mg → mg d.name = some (.ref fa) →
      ∃ fd : FuncData, (∀ (s : Shared) (u : Value), BindsTo s fd ⟨[u], []⟩ [(x, u)]) ∧ ∀ base : Heap, (K w.params).In base → base.Ns mainGlobals mg → FnC l.prog w (K w.params) mg base fa fd [x] (sp w))
    (hsp : ∀ (w : World) (H : Hp) (a : Addr) (ns : List Int), ns.length ≤ n → SqL (K w.params) H a (ns.map V.int) → sp w [.ref a] H (fun v _ => v = .bl true) fun _ _ _ => False) :
    PySem.W.WalkO q loose XP YP l.row.toRowW d [] (fun f vs => PySem.call f vs) := by
  refine Att.attach_call hn df fun w s₀ s mg mb fa o pm cd doc a vs ns G Y ho hd hcd hmg hobj hints hlen hg => ?_
  have kx := hY w _ Y
  obtain ⟨fd, hb, hF⟩ := F w mg fa _ kx G.T.g hmg
  exact run_law kx G.T.g G.T.b G.T.builtins G.T.nolimit hg hobj hints (Nat.le_trans hlen n2) hF hb fun H hS => hsp w H a ns hlen hS
end UP

set_option Elab.async false
set_option linter.all false
set_option maxRecDepth 100000
set_option maxHeartbeats 4000000
namespace UP
open PySem PySem.Spec PyProof.Rows L2
/-! ### lists or tuples -/
def Sq2 (H : Hp) (a : Addr) (xs : List V) : Prop := H a = some (.lst xs) ∨ H a = some (.tup xs)
theorem Sq2.same {H H' : Hp} {a : Addr} {xs : List V} (s : Same H H') (h : Sq2 H a xs) : Sq2 H' a xs := h.elim (fun z => .inl (s _ _ z)) (fun z => .inr (s _ _ z))
/-- a walk over the items xs, from the heap H on -/
structure Wk (J : It) (H : Hp) (xs : List V) : Prop where
  go : ∀ i H', Same H H' → i < xs.length → J.go i H'
  stop : ∀ H', Same H H' → J.stop xs.length H'
  yld : ∀ i x H' H'', Same H H' → J.yld i H' x H'' → H'' = H' ∧ xs[i]? = some x
theorem wk_list {K : PySem.W.Frag} {H : Hp} {a : Addr} {xs : List V} (h : H a = some (.lst xs)) : Wk (Itl K a) H xs :=
  ⟨fun i H' s hi => ⟨xs, xs[i], .of (s _ _ h), List.getElem?_eq_getElem hi⟩, fun H' s => ⟨xs, .of (s _ _ h), Nat.le_refl _⟩, fun i x H' H'' s y => ⟨y.1, y.2 xs (.of (s _ _ h))⟩⟩
theorem wk_tup {K : PySem.W.Frag} {H : Hp} {a : Addr} {xs : List V} (h : H a = some (.tup xs)) : Wk (Itt K a) H xs :=
  ⟨fun i H' s hi => ⟨xs, xs[i], .of (s _ _ h), List.getElem?_eq_getElem hi⟩, fun H' s => ⟨xs, .of (s _ _ h), Nat.le_refl _⟩, fun i x H' H'' s y => ⟨y.1, y.2 xs (.of (s _ _ h))⟩⟩
def iSeqV (i : Nat) : TI := fun σ H R => ∃ a xs, σ[i]? = some (some (.ref a)) ∧ Sq2 H a xs ∧ ∀ J, Wk J H xs → R J H
section
variable {X : Cx}
theorem pi_seqV (i : Nat) {x : Str} {pos : Pos} {tg : Expr} (hN : X.N[i]? = some x := by rfl) (hv : Vis X.env.scope x := by first | exact Or.inl rfl | exact Or.inr (Or.inl rfl) | exact Or.inr (Or.inr rfl)) (hd : (x == ("__debug__" : Str)) = false := by decide)
    (hc : (x == ("__classdict__" : Str)) = false := by decide) : PI X tg (.Name x pos) (iSeqV i) := by
  refine ⟨fun pins s σ H R I hw => ?_⟩
  obtain ⟨a, xs, e, h, k⟩ := hw
  rcases h with h | h
  · exact (pi_list (pe_var hN hv hd hc)).run pins s σ H R I ⟨_, e, a, rfl, ⟨xs, .of h⟩, k _ (wk_list h)⟩
  · exact (pi_tup (pe_var hN hv hd hc)).run pins s σ H R I ⟨_, e, a, rfl, ⟨xs, .of h⟩, k _ (wk_tup h)⟩
def gAny (n : Nat) (t : TGs) : TG := fun v σ H Q => ∃ a xs, v = .ref a ∧ Sq2 H a xs ∧ xs.length = n ∧ t xs σ H Q
theorem pg_any {es : List Expr} {k n : Nat} {t : TGs} {pos : Pos} (hc : X.calm = true) (h : PGs X es t) (hn : (assignEach es X.env).length = n := by rfl) (hst : (assignEach es X.env).findIdx? (fun z => z.1) = none := by rfl) : PG X (.Tuple es k pos) (gAny n t) := by
  refine ⟨fun pins s σ H v u Q I r hw => ?_⟩
  obtain ⟨a, xs, e, hx, hl, hw⟩ := hw
  rcases hx with z | z
  · exact (pg_unl hc h hn hst).run pins s σ H v u Q I r ⟨a, xs, e, .of z, hl, hw⟩
  · exact (pg_tup hc h hn hst).run pins s σ H v u Q I r ⟨a, xs, e, .of z, hl, hw⟩
/-- zip(x, x[1:]) -/
structure WkZ (J : It) (H : Hp) (xs : List V) : Prop where
  go : ∀ i H', Same H H' → i + 1 < xs.length → J.go i H'
  stop : ∀ H', Same H H' → J.stop (xs.length - 1) H'
  yld : ∀ i x H' H'', Same H H' → J.yld i H' x H'' → ∃ T x1 x2, x = .ref T ∧ H' T = none ∧ H'' = upd H' T (.tup [x1, x2]) ∧ xs[i]? = some x1 ∧ (i + 1 < xs.length → xs[i + 1]? = some x2)
def iZip1 (i : Nat) : TI := fun σ H R => ∃ a xs, σ[i]? = some (some (.ref a)) ∧ Sq2 H a xs ∧ ∀ J H', Same H H' → WkZ J H' xs → R J H'
theorem cutt_one (xs : List V) : cutV xs (some 1) none = xs.drop 1 := by
  have e : HT.sIx xs.length 0 (some 1) = min 1 xs.length := HT.sIx_nat xs.length 0 1
  unfold cutV
  rw [e, HT.sIx_none]
  cases xs with
  | nil => rfl
  | cons x r =>
    have e1 : min 1 (x :: r).length = 1 := by simp only [List.length_cons]; omega
    rw [e1]
    simp
theorem pi_zip1 {i : Nat} {tg it : Expr} {tl th : TO} (h : PI X tg it (RZ.iZipA X.K (tCons (tVar i) (tCons (tSl (fun x lo hi H Q => rSlL X.K x lo hi H Q ∨ rSlA X.K x lo hi H Q) (tVar i) tl th) tNil))))
    (h1 : ∀ (σ : L2.St) (H : Hp) (Q : Option Int → Hp → Prop), Q (some 1) H → tl σ H Q) (h2 : ∀ (σ : L2.St) (H : Hp) (Q : Option Int → Hp → Prop), Q none H → th σ H Q) : PI X tg it (iZip1 i) := by
  refine ⟨fun pins s σ H R I hw => h.run pins s σ H R I ?_⟩
  obtain ⟨a, xs, e, hx, k⟩ := hw
  refine ⟨_, e, _, e, h1 σ H _ (h2 σ H _ ?_)⟩
  have gn : ∀ j : Nat, (xs.drop 1)[j]? = xs[j + 1]? := fun j => by rw [List.getElem?_drop, Nat.add_comm 1 j]
  rcases hx with hx | hx
  · refine .inl ⟨a, xs, rfl, .of hx, fun c nc => ?_⟩
    have sc : Same H (upd H c (.lst (cutV xs (some 1) none))) := fun b o z => by rw [upd_ne (ne_of_none z nc)]; exact z
    have hc : (upd H c (.lst (cutV xs (some 1) none))) c = some (.lst (xs.drop 1)) := by rw [upd_same, cutt_one]
    refine ⟨a, c, xs, xs.drop 1, rfl, .inl ⟨.of (sc _ _ hx), .of hc, k _ _ sc ⟨fun j H' sj hj => ?_, fun H' sj => ?_, fun j x H' H'' sj y => ?_⟩⟩⟩
    · exact ⟨xs, xs.drop 1, xs[j], xs[j + 1], .of (sj _ _ (sc _ _ hx)), .of (sj _ _ hc), List.getElem?_eq_getElem (by omega), by rw [gn]; exact List.getElem?_eq_getElem hj⟩
    · exact ⟨xs, xs.drop 1, .of (sj _ _ (sc _ _ hx)), .of (sj _ _ hc), .inr (by rw [List.length_drop]; exact Nat.le_refl _)⟩
    · obtain ⟨T, x1, x2, e1, e2, e3, f1, f2⟩ := y
      exact ⟨T, x1, x2, e1, e2, e3, f1 xs (.of (sj _ _ (sc _ _ hx))), fun _ => by rw [← gn]; exact f2 _ (.of (sj _ _ hc))⟩
  · refine .inr ⟨a, xs, rfl, .of hx, fun z => ?_, fun z c nc => ?_⟩
    · have lz : xs.length = 0 := by
        have z1 := z.1
        rw [show HT.sIx xs.length 0 (some 1) = min 1 xs.length from HT.sIx_nat xs.length 0 1] at z1
        omega
      refine ⟨a, a, xs, xs, rfl, .inr ⟨.of hx, .of hx, k _ _ (Same.refl _) ⟨fun j H' sj hj => by omega, fun H' sj => ⟨xs, xs, .of (sj _ _ hx), .of (sj _ _ hx), .inl (by omega)⟩, fun j x H' H'' sj y => ?_⟩⟩⟩
      obtain ⟨T, x1, x2, e1, e2, e3, f1, f2⟩ := y
      exact ⟨T, x1, x2, e1, e2, e3, f1 xs (.of (sj _ _ hx)), fun hj => by omega⟩
    · have sc : Same H (upd H c (.tup (cutV xs (some 1) none))) := fun b o z => by rw [upd_ne (ne_of_none z nc)]; exact z
      have hc : (upd H c (.tup (cutV xs (some 1) none))) c = some (.tup (xs.drop 1)) := by rw [upd_same, cutt_one]
      refine ⟨a, c, xs, xs.drop 1, rfl, .inr ⟨.of (sc _ _ hx), .of hc, k _ _ sc ⟨fun j H' sj hj => ?_, fun H' sj => ?_, fun j x H' H'' sj y => ?_⟩⟩⟩
      · exact ⟨xs, xs.drop 1, xs[j], xs[j + 1], .of (sj _ _ (sc _ _ hx)), .of (sj _ _ hc), List.getElem?_eq_getElem (by omega), by rw [gn]; exact List.getElem?_eq_getElem hj⟩
      · exact ⟨xs, xs.drop 1, .of (sj _ _ (sc _ _ hx)), .of (sj _ _ hc), .inr (by rw [List.length_drop]; exact Nat.le_refl _)⟩
      · obtain ⟨T, x1, x2, e1, e2, e3, f1, f2⟩ := y
        exact ⟨T, x1, x2, e1, e2, e3, f1 xs (.of (sj _ _ (sc _ _ hx))), fun _ => by rw [← gn]; exact f2 _ (.of (sj _ _ hc))⟩
end
/-! ### runs and states, dressed -/
def RunG (H : Hp) (v : V) (r : Run) : Prop := ∃ t, v = .ref t ∧ Sq2 H t [.str r.1, .int r.2]
def RunsG (H : Hp) (v : V) (rs : List Run) : Prop := ∃ a xs, v = .ref a ∧ Sq2 H a xs ∧ Paired (RunG H) xs rs
def StG (H : Hp) (v : V) : Option Run → Prop
  | none => v = .non
  | some r => RunG H v r
theorem RunG.same {H H' : Hp} {v : V} {r : Run} (s : Same H H') (h : RunG H v r) : RunG H' v r := by
  obtain ⟨t, e, h⟩ := h
  exact ⟨t, e, h.same s⟩
theorem RunsG.same {H H' : Hp} {v : V} {rs : List Run} (s : Same H H') (h : RunsG H v rs) : RunsG H' v rs := by
  obtain ⟨a, xs, e, hx, p⟩ := h
  exact ⟨a, xs, e, hx.same s, Paired.imp (fun _ _ => RunG.same s) p⟩
theorem StG.same {H H' : Hp} {v : V} {st : Option Run} (s : Same H H') (h : StG H v st) : StG H' v st := by
  cases st with
  | none => exact h
  | some r => exact RunG.same s h
theorem RunV.dress {H : Hp} {v : V} {r : Run} (h : RunV H v r) : RunG H v r := by
  obtain ⟨t, e, h⟩ := h
  exact ⟨t, e, .inr h⟩
theorem Runs.dress {H : Hp} {a : Addr} {rs : List Run} (h : Runs H a rs) : RunsG H (.ref a) rs := by
  obtain ⟨xs, hx, p⟩ := h
  exact ⟨a, xs, rfl, .inl hx, Paired.imp (fun _ _ => RunV.dress) p⟩
theorem StV.dress {H : Hp} {v : V} {st : Option Run} (h : StV H v st) : StG H v st := by
  cases st with
  | none => exact h
  | some r => exact RunV.dress h
theorem Sq2.but {H H' : Hp} {sp a : Addr} {xs : List V} (z : Spr H sp) (s : But sp H H') (h : Sq2 H a xs) (n : ∀ d e f, xs ≠ [.int d, .int e, .int f]) : Sq2 H' a xs := by
  obtain ⟨d, e, f, hs, _⟩ := z
  rcases h with h | h
  · exact .inl (s _ _ (ne_of h hs fun q => n d e f (HO.lst.inj q)) h)
  · exact .inr (s _ _ (ne_of h hs fun q => by cases q) h)
theorem RunG.but {H H' : Hp} {sp : Addr} {v : V} {r : Run} (z : Spr H sp) (s : But sp H H') (h : RunG H v r) : RunG H' v r := by
  obtain ⟨t, e, h⟩ := h
  exact ⟨t, e, h.but z s fun _ _ _ q => by cases q⟩
theorem RunsG.but {H H' : Hp} {sp : Addr} {v : V} {rs : List Run} (z : Spr H sp) (s : But sp H H') (h : RunsG H v rs) : RunsG H' v rs := by
  obtain ⟨a, xs, e, hx, p⟩ := h
  refine ⟨a, xs, e, hx.but z s fun d _ _ q => ?_, Paired.imp (fun _ _ => RunG.but z s) p⟩
  subst q
  cases p with
  | cons h _ =>
    obtain ⟨_, e, _⟩ := h
    cases e
theorem StG.but {H H' : Hp} {sp : Addr} {v : V} {st : Option Run} (z : Spr H sp) (s : But sp H H') (h : StG H v st) : StG H' v st := by
  cases st with
  | none => exact h
  | some r => exact RunG.but z s h
end UP

set_option Elab.async false
set_option linter.all false
set_option maxRecDepth 100000
set_option maxHeartbeats 4000000
namespace UP
open PySem PySem.Spec PyProof.Rows L2
def topS (i : Nat) : Stmt := PySem.Challenge.pw_unlikepairs_k22_many_rounds.main.body.getD i (.Pass ⟨0, 0, 0, 0⟩)
structure Tx (mg : Str → Option Value) : Prop where
  n_isinstance : mg "isinstance" = none
  n_int : mg "int" = none
  n_bool : mg "bool" = none
  n_str : mg "str" = none
  n_list : mg "list" = none
  n_tuple : mg "tuple" = none
  n_len : mg "len" = none
  n_all : mg "all" = none
  n_zip : mg "zip" = none
  n_sum : mg "sum" = none
  n_min : mg "min" = none
  n_max : mg "max" = none
  n_abs : mg "abs" = none
  n_range : mg "range" = none
  n_repr : mg "repr" = none
  n_enumerate : mg "enumerate" = none
  n_any : mg "any" = none
  n_dict : mg "dict" = none
  n_sorted : mg "sorted" = none
  n_set : mg "set" = none
  n_reversed : mg "reversed" = none
  c_MAX_LETTERS : ∃ t, mg "MAX_LETTERS" = some (.int 8 t)
  c_MAX_RUNS : ∃ t, mg "MAX_RUNS" = some (.int 400 t)
  c_MAX_ITEMS : ∃ t, mg "MAX_ITEMS" = some (.int 400 t)
  c_MAX_COUNT : ∃ t, mg "MAX_COUNT" = some (.int 1000000000000000000000000000000 t)
  c_MAX_ROUNDS : ∃ t, mg "MAX_ROUNDS" = some (.int 1000000000000000000000000000000 t)
section
variable {P : Program} {w : World} {K : PySem.W.Frag} {mg : Str → Option Value} {base : Heap}
/-! is_whole: slots 0:value -/
abbrev s_is_whole : Stmt := topS 11
theorem sc_is_whole : FnScope ["value"] ["value"] (defScope s_is_whole) := ⟨rfl, rfl, rfl, by decide +kernel, rfl, by decide +kernel, by decide +kernel⟩
def sp_is_whole : Sp := fun vs H Q _ => ∃ n : Int, vs = [.int n] ∧ Q (.bl true) H
theorem ok_is_whole (D : Df K mg "is_whole" s_is_whole) (T : Tx mg) : Has P w K mg base 1 "is_whole" ["value"] sp_is_whole := by
  refine has_of D sc_is_whole (fun _ _ _ _ _ _ us hl => match us, hl with | [_], _ => rfl) (fun vs H Q E h => ?_) (fun f cdv A outer s H vs Q E hr h => ?_)
  · obtain ⟨n, rfl, _⟩ := h
    rfl
  · obtain ⟨n, rfl, q⟩ := h
    refine ⟨_, (pss_one (ps_ret (pe_and (pe_callB call_isi (by rfl) T.n_isinstance (by decide +kernel) (pa_cons (pv 0) (pa_cons (pe_bltn (v := .ty "int") (by rfl) T.n_int (by decide +kernel) rfl) pa_nil))) (pe_one (pe_not (pe_callB call_isi (by rfl) T.n_isinstance (by decide +kernel) (pa_cons (pv 0) (pa_cons (pe_bltn (v := .ty "bool") (by rfl) T.n_bool (by decide +kernel) rfl) pa_nil)))))))), ?_⟩
    exact ⟨_, rfl, _, _, _, _, true, rfl, .ty "int", .base (.int n), kit_ty (by decide +kernel), true, rfl, iteT ⟨_, rfl, _, _, _, _, false, rfl, .ty "bool", .base (.int n), kit_ty (by decide +kernel), false, rfl, q⟩⟩
/-! is_within: slots 0:value 1:low 2:high -/
abbrev s_is_within : Stmt := topS 12
theorem sc_is_within : FnScope ["value", "low", "high"] ["value", "low", "high"] (defScope s_is_within) := ⟨rfl, rfl, rfl, by decide +kernel, rfl, by decide +kernel, by decide +kernel⟩
def sp_is_within : Sp := fun vs H Q _ => ∃ n lo hi : Int, vs = [.int n, .int lo, .int hi] ∧ Q (.bl (decide (lo ≤ n ∧ n ≤ hi))) H
theorem ok_is_within (D : Df K mg "is_within" s_is_within) (G_is_whole : Has P w K mg base 1 "is_whole" ["value"] sp_is_whole) : Has P w K mg base 2 "is_within" ["value", "low", "high"] sp_is_within := by
  refine has_of D sc_is_within (fun _ _ _ _ _ _ us hl => match us, hl with | [_, _, _], _ => rfl) (fun vs H Q E h => ?_) (fun f cdv A outer s H vs Q E hr h => ?_)
  · obtain ⟨n, lo, hi, rfl, _⟩ := h
    rfl
  · obtain ⟨n, lo, hi, rfl, q⟩ := h
    refine ⟨_, (pss_one (ps_ret (pe_and (pe_callH G_is_whole (hr.mono (by omega)) (by rfl) (pa_cons (pv 0) pa_nil)) (pe_one (pe_chain op_le op_le (pv 1) (pv 0) (pv 2)))))), ?_⟩
    refine ⟨_, rfl, n, rfl, true, rfl, iteT ⟨_, rfl, _, rfl, _, _, rfl, rfl, _, rfl, ite2 (fun e => ?_) (fun e => ?_)⟩⟩
    · have e := of_decide_eq_true e
      refine ⟨_, rfl, _, _, rfl, rfl, ?_⟩
      show Q (.bl (decide (n ≤ hi))) H
      rw [show decide (n ≤ hi) = decide (lo ≤ n ∧ n ≤ hi) by simp [e]]
      exact q
    · have e : ¬ lo ≤ n := fun z => e (decide_eq_true z)
      show Q (.bl false) H
      rw [show false = decide (lo ≤ n ∧ n ≤ hi) by simp [e]]
      exact q
theorem kit_lst {K : PySem.W.Frag} : PySem.W.kitAny K (.type "list") [.type "list", .type "tuple"] = some true := kitAny_cons (b := true) (kit_ty (by decide +kernel)) (fun z => nomatch z) (fun _ => rfl)
theorem kit_tup {K : PySem.W.Frag} : PySem.W.kitAny K (.type "tuple") [.type "list", .type "tuple"] = some true := kitAny_cons (b := false) (kit_ty (by decide +kernel)) (fun _ => kitAny_cons (b := true) (kit_ty (by decide +kernel)) (fun z => nomatch z) (fun _ => rfl)) (fun z => nomatch z)
/-! is_listed: slots 0:value 1:most -/
abbrev s_is_listed : Stmt := topS 13
theorem sc_is_listed : FnScope ["value", "most"] ["value", "most"] (defScope s_is_listed) := ⟨rfl, rfl, rfl, by decide +kernel, rfl, by decide +kernel, by decide +kernel⟩
def sp_is_listed : Sp := fun vs H Q _ => ∃ (a : Addr) (xs : List V) (m : Int), vs = [.ref a, .int m] ∧ Sq2 H a xs ∧ ∀ H', Same H H' → Q (.bl (decide ((xs.length : Int) ≤ m))) H'
theorem ok_is_listed (D : Df K mg "is_listed" s_is_listed) (T : Tx mg) : Has P w K mg base 1 "is_listed" ["value", "most"] sp_is_listed := by
  refine has_of D sc_is_listed (fun _ _ _ _ _ _ us hl => match us, hl with | [_, _], _ => rfl) (fun vs H Q E h => ?_) (fun f cdv A outer s H vs Q E hr h => ?_)
  · obtain ⟨a, xs, m, rfl, _⟩ := h
    rfl
  · obtain ⟨a, xs, m, rfl, hx, q⟩ := h
    refine ⟨_, (pss_one (ps_ret (pe_and (pe_callB call_isiT (by rfl) T.n_isinstance (by decide +kernel) (pa_cons (pv 0) (pa_cons (pe_tup (pa_cons (pe_bltn (v := .ty "list") (by rfl) T.n_list (by decide +kernel) rfl) (pa_cons (pe_bltn (v := .ty "tuple") (by rfl) T.n_tuple (by decide +kernel) rfl) pa_nil))) pa_nil))) (pe_one (pe_cmpR op_le (pe_callB call_len_seq (by rfl) T.n_len (by decide +kernel) (pa_cons (pv 0) pa_nil)) (pv 1) (nomark _)))))), ?_⟩
    refine ⟨_, rfl, (by show 2 ≤ sizeLine; decide), fun t nt => ?_⟩
    rcases hx with hx | hx
    · refine ⟨_, t, _, _, _, true, rfl, upd_same, .cons (.ty "list") (.cons (.ty "tuple") .nil), .base (.lst (same_upd nt _ _ hx)), kit_lst, true, rfl, iteT ?_⟩
      exact ⟨_, rfl, _, _, rfl, .inl (.of (same_upd nt _ _ hx)), _, rfl, _, _, rfl, rfl, q _ (same_upd nt)⟩
    · refine ⟨_, t, _, _, _, true, rfl, upd_same, .cons (.ty "list") (.cons (.ty "tuple") .nil), .base (.tup (same_upd nt _ _ hx)), kit_tup, true, rfl, iteT ?_⟩
      exact ⟨_, rfl, _, _, rfl, .inr (.of (same_upd nt _ _ hx)), _, rfl, _, _, rfl, rfl, q _ (same_upd nt)⟩
/-! is_couple: slots 0:value -/
abbrev s_is_couple : Stmt := topS 14
theorem sc_is_couple : FnScope ["value"] ["value"] (defScope s_is_couple) := ⟨rfl, rfl, rfl, by decide +kernel, rfl, by decide +kernel, by decide +kernel⟩
def sp_is_couple : Sp := fun vs H Q _ => ∃ (a : Addr) (xs : List V), vs = [.ref a] ∧ Sq2 H a xs ∧ xs.length = 2 ∧ ∀ H', Same H H' → Q (.bl true) H'
theorem ok_is_couple (D : Df K mg "is_couple" s_is_couple) (T : Tx mg) : Has P w K mg base 1 "is_couple" ["value"] sp_is_couple := by
  refine has_of D sc_is_couple (fun _ _ _ _ _ _ us hl => match us, hl with | [_], _ => rfl) (fun vs H Q E h => ?_) (fun f cdv A outer s H vs Q E hr h => ?_)
  · obtain ⟨a, xs, rfl, _⟩ := h
    rfl
  · obtain ⟨a, xs, rfl, hx, hl, q⟩ := h
    refine ⟨_, (pss_one (ps_ret (pe_and (pe_callB call_isiT (by rfl) T.n_isinstance (by decide +kernel) (pa_cons (pv 0) (pa_cons (pe_tup (pa_cons (pe_bltn (v := .ty "list") (by rfl) T.n_list (by decide +kernel) rfl) (pa_cons (pe_bltn (v := .ty "tuple") (by rfl) T.n_tuple (by decide +kernel) rfl) pa_nil))) pa_nil))) (pe_one (pe_cmpR op_eq (pe_callB call_len_seq (by rfl) T.n_len (by decide +kernel) (pa_cons (pv 0) pa_nil)) pe_int (nomark _)))))), ?_⟩
    refine ⟨_, rfl, (by show 2 ≤ sizeLine; decide), fun t nt => ?_⟩
    rcases hx with hx | hx
    · refine ⟨_, t, _, _, _, true, rfl, upd_same, .cons (.ty "list") (.cons (.ty "tuple") .nil), .base (.lst (same_upd nt _ _ hx)), kit_lst, true, rfl, iteT ⟨_, rfl, _, _, rfl, .inl (.of (same_upd nt _ _ hx)), rfl, ?_⟩⟩
      rw [hl]
      exact q _ (same_upd nt)
    · refine ⟨_, t, _, _, _, true, rfl, upd_same, .cons (.ty "list") (.cons (.ty "tuple") .nil), .base (.tup (same_upd nt _ _ hx)), kit_tup, true, rfl, iteT ⟨_, rfl, _, _, rfl, .inr (.of (same_upd nt _ _ hx)), rfl, ?_⟩⟩
      rw [hl]
      exact q _ (same_upd nt)
end
end UP

set_option Elab.async false
set_option linter.all false
set_option maxRecDepth 100000
set_option maxHeartbeats 4000000
namespace UP
open PySem PySem.Spec PyProof.Rows L2
theorem iteP {b : Bool} {A B : Prop} (h : b = true) (x : A) : if b = true then A else B := by
  rw [if_pos h]
  exact x
theorem iteN {b : Bool} {A B : Prop} (h : b = false) (x : B) : if b = true then A else B := by
  rw [if_neg (by rw [h]; decide)]
  exact x
theorem yesT {σ : L2.St} {H : Hp} {A B : Hp → Prop} (h : A H) : tYes σ H (fun b H3 => if b = true then A H3 else B H3) := by
  show (if true = true then A H else B H)
  exact iteT h
theorem lc_gen {J : It} {n : Nat} {g : TG} {tt : TT} {te : TE} {vs : List Nat} {σ : L2.St} {H1 : Hp} {D : Addr} {Qd : Hp → Prop} (Pv : Nat → Hp → Prop) (h0 : Pv 0 (upd H1 D (.lst [])))
    (hg : ∀ i H, i < n → Pv i H → J.go i H) (hst : ∀ H, Pv n H → J.stop n H)
    (hs : ∀ i x H H', i < n → Pv i H → J.yld i H x H' → g x (wipe σ vs) H' fun σ2 H2 => wipe σ2 vs = wipe σ vs ∧ tt σ2 H2 fun b H3 =>
      if b = true then te σ2 H3 fun y H4 => ∃ acc, H4 D = some (.lst acc) ∧ acc.length < sizeLine ∧ Pv (i + 1) (upd H4 D (.lst (acc ++ [y]))) else Pv (i + 1) H3) (hd : ∀ H, Pv n H → Qd H) :
    ∃ W : Nat → Nat → Hp → Prop, (∃ m, W 0 m (upd H1 D (.lst []))) ∧ ∀ i m H, W i m H →
      (J.stop i H ∧ Qd H) ∨ (J.go i H ∧ ∃ Nx : Hp → Prop, (∀ H', Nx H' → ∃ m', m' < m ∧ W (i + 1) m' H') ∧ ∀ x H', J.yld i H x H' → g x (wipe σ vs) H' fun σ2 H2 => wipe σ2 vs = wipe σ vs ∧ tt σ2 H2 fun b H3 =>
        if b = true then te σ2 H3 fun y H4 => ∃ acc, H4 D = some (.lst acc) ∧ acc.length < sizeLine ∧ Nx (upd H4 D (.lst (acc ++ [y]))) else Nx H3) := by
  refine ⟨fun i m H => m = n - i ∧ i ≤ n ∧ Pv i H, ⟨n, by simp, Nat.zero_le _, h0⟩, ?_⟩
  rintro i m H ⟨rfl, hi, p⟩
  by_cases hlt : i < n
  · exact .inr ⟨hg i H hlt p, Pv (i + 1), fun H' p' => ⟨n - (i + 1), by omega, rfl, hlt, p'⟩, fun x H' y => hs i x H H' hlt p y⟩
  · have e : i = n := by omega
    subst e
    exact .inl ⟨hst H p, hd H p⟩
section
variable {X : Cx} {K : PySem.W.Frag}
theorem ix_tupK (h : X.K = K) : IxR X (rIxT K) := h ▸ ix_tup
theorem ix_listK (h : X.K = K) : IxR X (rIxL K) := h ▸ ix_list
theorem pg_tupK {es : List Expr} {k : Nat} {t : TGs} {n : Nat} {pos : Pos} (h : X.K = K) (hc : X.calm = true) (hp : PGs X es t)
    (hn : (assignEach es X.env).length = n := by rfl) (hst : (assignEach es X.env).findIdx? (fun z => z.1) = none := by rfl) : PG X (.Tuple es k pos) (gTup K n t) := by
  subst h
  exact pg_tup hc hp hn hst
theorem call_len_seqK (h : X.K = K) : CallR X (.builtin "len") (fun xs H Q => ∃ p ys, xs = [.ref p] ∧ (SqL K H p ys ∨ SqT K H p ys) ∧ Q (.int ys.length) H) := by
  subst h
  exact call_len_seq
end
theorem ix_seqK {X : Cx} {K : PySem.W.Frag} (h : X.K = K) : IxR X (rIx K) := h ▸ ix_seq
/-! ### lists that grow -/
theorem same_grow {H H4 : Hp} {D : Addr} {o : HO} (n : H D = none) (s : Same H H4) : Same H (upd H4 D o) := fun b x e => by
  rw [upd_ne (ne_of_none e n)]
  exact s b x e
theorem RunV.grow {H : Hp} {D : Addr} {acc acc' : List V} {v : V} {r : Run} (hD : H D = some (.lst acc)) (h : RunV H v r) : RunV (upd H D (.lst acc')) v r := by
  obtain ⟨t, e, h⟩ := h
  refine ⟨t, e, ?_⟩
  rw [upd_ne (ne_of h hD (by intro q; cases q))]
  exact h
theorem prs_grow {H : Hp} {D : Addr} {acc acc' : List V} {xs : List V} {rs : List Run} (hD : H D = some (.lst acc)) (h : Paired (RunV H) xs rs) : Paired (RunV (upd H D (.lst acc'))) xs rs := Paired.imp (fun _ _ => RunV.grow hD) h
theorem prs_same {H H' : Hp} {xs : List V} {rs : List Run} (s : Same H H') (h : Paired (RunV H) xs rs) : Paired (RunV H') xs rs := Paired.imp (fun _ _ => RunV.same s) h
theorem take_snoc {α : Type} {l : List α} {i : Nat} {x : α} (h : l[i]? = some x) : l.take (i + 1) = l.take i ++ [x] := by
  rw [List.take_add_one, h]
  rfl
theorem lc_wk {J : It} {H0 H1 : Hp} {xs : List V} {g : TG} {tt : TT} {te : TE} {vs : List Nat} {σ : L2.St} {D : Addr} {Qd : Hp → Prop} (wk : Wk J H0 xs) (Pv : Nat → Hp → Prop) (hsm : ∀ i H, Pv i H → Same H0 H) (h0 : Pv 0 (upd H1 D (.lst [])))
    (hs : ∀ i x H, xs[i]? = some x → Pv i H → g x (wipe σ vs) H fun σ2 H2 => wipe σ2 vs = wipe σ vs ∧ tt σ2 H2 fun b H3 =>
      if b = true then te σ2 H3 fun y H4 => ∃ acc, H4 D = some (.lst acc) ∧ acc.length < sizeLine ∧ Pv (i + 1) (upd H4 D (.lst (acc ++ [y]))) else Pv (i + 1) H3) (hd : ∀ H, Pv xs.length H → Qd H) :
    ∃ W : Nat → Nat → Hp → Prop, (∃ m, W 0 m (upd H1 D (.lst []))) ∧ ∀ i m H, W i m H →
      (J.stop i H ∧ Qd H) ∨ (J.go i H ∧ ∃ Nx : Hp → Prop, (∀ H', Nx H' → ∃ m', m' < m ∧ W (i + 1) m' H') ∧ ∀ x H', J.yld i H x H' → g x (wipe σ vs) H' fun σ2 H2 => wipe σ2 vs = wipe σ vs ∧ tt σ2 H2 fun b H3 =>
        if b = true then te σ2 H3 fun y H4 => ∃ acc, H4 D = some (.lst acc) ∧ acc.length < sizeLine ∧ Nx (upd H4 D (.lst (acc ++ [y]))) else Nx H3) := by
  refine lc_gen Pv h0 (fun i H hi p => wk.go i H (hsm i H p) hi) (fun H p => wk.stop H (hsm _ H p)) (fun i x H H' hi p y => ?_) hd
  obtain ⟨e, ex⟩ := wk.yld i x H H' (hsm i H p) y
  subst e
  exact hs i x _ ex p
theorem for_wk {J : It} {H0 H : Hp} {xs : List V} {g : TG} {tb : TS} {D : Ends} {σ : L2.St} (wk : Wk J H0 xs) (Pv : Nat → L2.St → Hp → Prop) (hsm : ∀ i σ H, Pv i σ H → Same H0 H) (h0 : Pv 0 σ H)
    (hs : ∀ i x σ H, xs[i]? = some x → Pv i σ H → g x σ H fun σ2 H2 => tb { D with nx := Pv (i + 1), ct := Pv (i + 1), bk := D.nx } σ2 H2) (hd : ∀ σ H, Pv xs.length σ H → D.nx σ H) :
    ∃ W : Nat → Nat → L2.St → Hp → Prop, (∃ m, W 0 m σ H) ∧ ∀ i m σ H, W i m σ H →
      (J.stop i H ∧ D.nx σ H) ∨ (J.go i H ∧ ∃ N : L2.St → Hp → Prop, (∀ σ' H', N σ' H' → ∃ m', m' < m ∧ W (i + 1) m' σ' H') ∧ ∀ x H', J.yld i H x H' → g x σ H' fun σ2 H2 => tb { D with nx := N, ct := N, bk := D.nx } σ2 H2) := by
  refine ⟨fun i m σ H => m = xs.length - i ∧ i ≤ xs.length ∧ Pv i σ H, ⟨xs.length, by omega, Nat.zero_le _, h0⟩, ?_⟩
  rintro i m σ H ⟨rfl, hi, p⟩
  by_cases hlt : i < xs.length
  · refine Or.inr ⟨wk.go i H (hsm i σ H p) hlt, Pv (i + 1), fun σ' H' p' => ⟨xs.length - (i + 1), by omega, rfl, hlt, p'⟩, fun x H' y => ?_⟩
    obtain ⟨e, ex⟩ := wk.yld i x H H' (hsm i σ H p) y
    subst e
    exact hs i x σ _ ex p
  · have e : i = xs.length := by omega
    subst e
    exact Or.inl ⟨wk.stop H (hsm _ σ H p), hd σ H p⟩
section
variable {P : Program} {w : World} {K : PySem.W.Frag} {mg : Str → Option Value} {base : Heap}
theorem lex1 {c d : Nat} : (!decide (([c] : List Nat) < [d])) = decide (d ≤ c) := by
  have e : (([c] : List Nat) < [d]) ↔ c < d := by
    rw [List.cons_lt_cons_iff]
    simp
  by_cases h : c < d
  · rw [decide_eq_true (e.mpr h), decide_eq_false (by omega)]
    rfl
  · rw [decide_eq_false (fun z => h (e.mp z)), decide_eq_true (by omega)]
    rfl
/-! is_kind: slots 0:value 1:letter -/
abbrev s_is_kind : Stmt := topS 15
theorem sc_is_kind : FnScope ["value", "letter"] ["value"] (defScope s_is_kind) := ⟨rfl, rfl, rfl, by decide +kernel, rfl, by decide +kernel, by decide +kernel⟩
def sp_is_kind : Sp := fun vs H Q _ => ∃ z : Str, vs = [.str z] ∧ KindOk z ∧ ∀ H', Same H H' → Q (.bl true) H'
theorem ok_is_kind (D : Df K mg "is_kind" s_is_kind) (T : Tx mg) : Has P w K mg base 1 "is_kind" ["value"] sp_is_kind := by
  refine has_of D sc_is_kind (fun _ _ _ _ _ _ us hl => match us, hl with | [_], _ => rfl) (fun vs H Q E h => ?_) (fun f cdv A outer s H vs Q E hr h => ?_)
  · obtain ⟨n, rfl, _⟩ := h
    rfl
  · obtain ⟨z, rfl, ⟨k1, k2, k3⟩, q⟩ := h
    refine ⟨_, (pss_cons (ps_if (PW.pt (pw_or (pt_not (pt_val (pe_callB call_isi (by rfl) T.n_isinstance (by decide +kernel) (pa_cons (pv 0) (pa_cons (pe_bltn (v := .ty "str") (by rfl) T.n_str (by decide +kernel) rfl) pa_nil))))) (pw_or1 (pt_not (pt_chain op_le op_le pe_int (pe_callB call_len_str (by rfl) T.n_len (by decide +kernel) (pa_cons (pv 0) pa_nil)) (pe_glI T.c_MAX_LETTERS (by rfl))))))) (pss_one (ps_ret pe_bl)) pss_nil)
    (pss_one (ps_ret (pe_callB (cr_all rfl) (by rfl) T.n_all (by decide +kernel) (pa_cons (pe_lc (own := [("letter", 1)]) rfl sc_is_kind.nd (pi_str (pv 0)) (blkOk_by (N := ["value", "letter"]) (sc := defScope s_is_kind) (by decide +kernel)) (fun _ _ _ _ _ => (pg_name (i := 1) sc_is_kind.nd rfl (by first | exact Or.inl rfl | exact Or.inr rfl))) (fun _ _ _ _ _ => pts_nil) (fun _ _ _ _ _ => (pe_chain op_le_str op_le_str pe_str (pv 1) pe_str))) pa_nil))))), ?_⟩
    refine ⟨_, rfl, _, _, _, _, true, rfl, .ty "str", .base (.str z), kit_ty (by decide +kernel), true, rfl, iteF ?_⟩
    refine ⟨_, rfl, z, rfl, smallE (by omega), _, _, rfl, rfl, _, rfl, iteP (decide_eq_true (by omega)) ⟨_, _, rfl, rfl, _, rfl, iteN ?_ ?_⟩⟩
    · show (!decide ((z.length : Int) ≤ 8)) = false
      rw [decide_eq_true (by omega)]
      rfl
    refine ⟨_, rfl, z, rfl, fun L nL => lc_gen (n := z.cps.size) (fun i H' => Same H H' ∧ H' L = some (.lst ((List.replicate i true).map V.bl))) ⟨same_upd nL, upd_same⟩ (fun i H' hi _ => hi) (fun H' _ => Nat.le_refl _) (fun i x H1 H2 hi p y => ?_) (fun H' p => ?_)⟩
    · obtain ⟨rfl, c, ec, rfl⟩ := y
      obtain ⟨sm, hL⟩ := p
      have hc : 97 ≤ c ∧ c ≤ 122 := k3 c (by
        have := Array.mem_of_getElem? ec
        simpa using this)
      have ea : ("a" : Str).cps.toList = [97] := by decide +kernel
      have ez : ("z" : Str).cps.toList = [122] := by decide +kernel
      refine ⟨rfl, yesT ⟨_, rfl, _, _, rfl, rfl, _, rfl, iteP ?_ ⟨_, _, rfl, rfl, _, hL, ?_, ?_, ?_⟩⟩⟩
      · show (!decide (([c] : List Nat) < ("a" : Str).cps.toList)) = true
        rw [ea, lex1]
        exact decide_eq_true hc.1
      · simp only [List.length_map, List.length_replicate]
        exact small (by have : z.cps.size = z.length := rfl; omega)
      · intro b o e
        have nb : b ≠ L := ne_of_none e nL
        rw [upd_ne nb]
        exact sm b o e
      · rw [upd_same]
        have e1 : (!decide ((("z" : Str).cps.toList) < ([c] : List Nat))) = true := by
          rw [ez, lex1]
          exact decide_eq_true hc.2
        show some (HO.lst ((List.replicate i true).map V.bl ++ [V.bl (!decide ((("z" : Str).cps.toList) < ([c] : List Nat)))])) = _
        rw [e1, List.replicate_succ', List.map_append]
        rfl
    · refine ⟨L, _, rfl, .of p.2, ?_⟩
      have e : ((List.replicate z.cps.size true).all id) = true := by simp
      rw [e]
      exact q H' p.1
def StOk (st : Option Run) : Prop := ∀ r, st = some r → KindOk r.1 ∧ 1 ≤ r.2
theorem at0 {α : Type} {x y : α} : atI [x, y] 0 = some x := rfl
theorem at1 {α : Type} {x y : α} : atI [x, y] 1 = some y := rfl
theorem ix0 {K : PySem.W.Frag} {H : Hp} {t : Addr} {x y : V} {Q : VK} (h : Sq2 H t [x, y]) (q : Q x H) : rIx K (.ref t) (.int 0) H Q := h.elim (fun z => .inl ⟨t, _, 0, _, rfl, rfl, .of z, at0, q⟩) (fun z => .inr (.inl ⟨t, _, 0, _, rfl, rfl, .of z, at0, q⟩))
theorem ix1 {K : PySem.W.Frag} {H : Hp} {t : Addr} {x y : V} {Q : VK} (h : Sq2 H t [x, y]) (q : Q y H) : rIx K (.ref t) (.int 1) H Q := h.elim (fun z => .inl ⟨t, _, 1, _, rfl, rfl, .of z, at1, q⟩) (fun z => .inr (.inl ⟨t, _, 1, _, rfl, rfl, .of z, at1, q⟩))
theorem all_rep (n : Nat) : ((List.replicate n true).all id) = true := by simp
/-! is_run: slots 0:value -/
abbrev s_is_run : Stmt := topS 16
theorem sc_is_run : FnScope ["value"] ["value"] (defScope s_is_run) := ⟨rfl, rfl, rfl, by decide +kernel, rfl, by decide +kernel, by decide +kernel⟩
def sp_is_run : Sp := fun vs H Q _ => ∃ (v : V) (r : Run), vs = [v] ∧ RunG H v r ∧ RunOk r ∧ ∀ H', Same H H' → Q (.bl true) H'
theorem ok_is_run (D : Df K mg "is_run" s_is_run) (T : Tx mg) (G_is_couple : Has P w K mg base 1 "is_couple" ["value"] sp_is_couple) (G_is_kind : Has P w K mg base 1 "is_kind" ["value"] sp_is_kind) (G_is_within : Has P w K mg base 2 "is_within" ["value", "low", "high"] sp_is_within) :
    Has P w K mg base 3 "is_run" ["value"] sp_is_run := by
  refine has_of D sc_is_run (fun _ _ _ _ _ _ us hl => match us, hl with | [_], _ => rfl) (fun vs H Q E h => ?_) (fun f cdv A outer s H vs Q E hr h => ?_)
  · obtain ⟨v, r, rfl, _⟩ := h
    rfl
  · obtain ⟨v, r, rfl, ⟨t, rfl, ht⟩, ⟨k, c1, c2⟩, q⟩ := h
    refine ⟨_, (pss_one (ps_ret (pe_and (pe_callH G_is_couple (hr.mono (by omega)) (by rfl) (pa_cons (pv 0) pa_nil)) (pe_and (pe_callH G_is_kind (hr.mono (by omega)) (by rfl) (pa_cons (pe_ix ix_seq (pv 0) pe_int (fun _ _ => rfl)) pa_nil)) (pe_one (pe_callH G_is_within (hr.mono (by omega)) (by rfl) (pa_cons (pe_ix ix_seq (pv 0) pe_int (fun _ _ => rfl)) (pa_cons pe_int (pa_cons (pe_glI T.c_MAX_COUNT (by rfl)) pa_nil))))))))), ?_⟩
    refine ⟨_, rfl, t, _, rfl, ht, rfl, fun H1 s1 => ⟨true, rfl, iteT ?_⟩⟩
    refine ⟨_, rfl, ix0 (ht.same s1) ⟨r.1, rfl, k, fun H2 s2 => ⟨true, rfl, iteT ?_⟩⟩⟩
    refine ⟨_, rfl, ix1 ((ht.same s1).same s2) ⟨r.2, 1, _, rfl, ?_⟩⟩
    rw [decide_eq_true ⟨c1, c2⟩]
    exact q _ (s1.trans s2)
/-! is_state: slots 0:value -/
abbrev s_is_state : Stmt := topS 18
theorem sc_is_state : FnScope ["value"] ["value"] (defScope s_is_state) := ⟨rfl, rfl, rfl, by decide +kernel, rfl, by decide +kernel, by decide +kernel⟩
def sp_is_state : Sp := fun vs H Q _ => ∃ (v : V) (st : Option Run), vs = [v] ∧ StG H v st ∧ StOk st ∧ ∀ H', Same H H' → Q (.bl true) H'
theorem ok_is_state (D : Df K mg "is_state" s_is_state) (T : Tx mg) (G_is_couple : Has P w K mg base 1 "is_couple" ["value"] sp_is_couple) (G_is_kind : Has P w K mg base 1 "is_kind" ["value"] sp_is_kind) (G_is_whole : Has P w K mg base 1 "is_whole" ["value"] sp_is_whole) :
    Has P w K mg base 2 "is_state" ["value"] sp_is_state := by
  refine has_of D sc_is_state (fun _ _ _ _ _ _ us hl => match us, hl with | [_], _ => rfl) (fun vs H Q E h => ?_) (fun f cdv A outer s H vs Q E hr h => ?_)
  · obtain ⟨v, r, rfl, _⟩ := h
    rfl
  · obtain ⟨v, st, rfl, hv, ok, q⟩ := h
    refine ⟨_, (pss_cons (ps_if (pt_cmpR op_isN (pv 0) pe_non (nomark _)) (pss_one (ps_ret pe_bl)) pss_nil)
    (pss_one (ps_ret (pe_and (pe_callH G_is_couple (hr.mono (by omega)) (by rfl) (pa_cons (pv 0) pa_nil)) (pe_and (pe_callH G_is_kind (hr.mono (by omega)) (by rfl) (pa_cons (pe_ix ix_seq (pv 0) pe_int (fun _ _ => rfl)) pa_nil)) (pe_and (pe_callH G_is_whole (hr.mono (by omega)) (by rfl) (pa_cons (pe_ix ix_seq (pv 0) pe_int (fun _ _ => rfl)) pa_nil)) (pe_one (pe_cmpR op_ge (pe_ix ix_seq (pv 0) pe_int (fun _ _ => rfl)) pe_int (nomark _))))))))), ?_⟩
    cases st with
    | none =>
      cases hv
      exact ⟨_, rfl, rfl, _, rfl, iteP rfl (q H (Same.refl H))⟩
    | some r =>
      obtain ⟨t, rfl, ht⟩ := hv
      obtain ⟨k, c1⟩ := ok r rfl
      refine ⟨_, rfl, rfl, _, rfl, iteN rfl ?_⟩
      refine ⟨_, rfl, t, _, rfl, ht, rfl, fun H1 s1 => ⟨true, rfl, iteT ?_⟩⟩
      refine ⟨_, rfl, ix0 (ht.same s1) ⟨r.1, rfl, k, fun H2 s2 => ⟨true, rfl, iteT ?_⟩⟩⟩
      refine ⟨_, rfl, ix1 ((ht.same s1).same s2) ⟨r.2, rfl, true, rfl, iteT ?_⟩⟩
      refine ⟨_, rfl, ix1 ((ht.same s1).same s2) ⟨_, _, rfl, rfl, ?_⟩⟩
      show Q (.bl (decide (1 ≤ r.2))) H2
      rw [decide_eq_true c1]
      exact q _ (s1.trans s2)
/-! is_sequence: slots 0:value 1:run 2:following -/
abbrev s_is_sequence : Stmt := topS 17
theorem sc_is_sequence : FnScope ["value", "run", "following"] ["value"] (defScope s_is_sequence) := ⟨rfl, rfl, rfl, by decide +kernel, rfl, by decide +kernel, by decide +kernel⟩
def sp_is_sequence : Sp := fun vs H Q _ => ∃ (v : V) (rs : List Run), vs = [v] ∧ RunsG H v rs ∧ SeqOk rs ∧ ∀ H', Same H H' → Q (.bl true) H'
theorem ok_is_sequence (D : Df K mg "is_sequence" s_is_sequence) (T : Tx mg) (G_is_listed : Has P w K mg base 1 "is_listed" ["value", "most"] sp_is_listed) (G_is_run : Has P w K mg base 3 "is_run" ["value"] sp_is_run) :
    Has P w K mg base 4 "is_sequence" ["value"] sp_is_sequence := by
  refine has_of D sc_is_sequence (fun _ _ _ _ _ _ us hl => match us, hl with | [_], _ => rfl) (fun vs H Q E h => ?_) (fun f cdv A outer s H vs Q E hr h => ?_)
  · obtain ⟨v, r, rfl, _⟩ := h
    rfl
  · obtain ⟨v, rs, rfl, ⟨a, xs, rfl, hx, hp⟩, ⟨l4, rok, alt⟩, q⟩ := h
    have lx : xs.length = rs.length := Paired.len hp
    refine ⟨_, (pss_cons (ps_if (PW.pt (pw_or (pt_not (pt_val (pe_callH G_is_listed (hr.mono (by omega)) (by rfl) (pa_cons (pv 0) (pa_cons (pe_glI T.c_MAX_RUNS (by rfl)) pa_nil))))) (pw_or1 (pt_not (pt_val (pe_callB (cr_all rfl) (by rfl) T.n_all (by decide +kernel) (pa_cons (pe_lc (own := [("run", 1)]) rfl sc_is_sequence.nd (pi_seqV 0) (blkOk_by (N := ["value", "run", "following"]) (sc := defScope s_is_sequence) (by decide +kernel)) (fun _ _ _ _ _ => (pg_name (i := 1) sc_is_sequence.nd rfl (by first | exact Or.inl rfl | exact Or.inr rfl))) (fun _ _ _ _ _ => pts_nil) (fun _ _ _ _ _ => (pe_callH G_is_run (hr.mono (by omega)) (by rfl) (pa_cons (pv 1) pa_nil)))) pa_nil))))))) (pss_one (ps_ret pe_bl)) pss_nil)
    (pss_one (ps_ret (pe_callB (cr_all rfl) (by rfl) T.n_all (by decide +kernel) (pa_cons (pe_lc (own := [("run", 1), ("following", 2)]) rfl sc_is_sequence.nd (pi_zip1 (i := 0) (RZ.pi_zipA (by rfl) T.n_zip (pa_cons (pv 0) (pa_cons (pe_slice (SlR.or sl_list sl_tupA) (pv 0) (po_some pe_int) po_none) pa_nil))) (fun _ _ _ q => ⟨1, rfl, q⟩) (fun _ _ _ q => q)) (blkOk_by (N := ["value", "run", "following"]) (sc := defScope s_is_sequence) (by decide +kernel)) (fun _ _ _ _ _ => (pg_tupK (K := K) (n := 2) rfl rfl (pgs_cons (pg_name (i := 1) sc_is_sequence.nd rfl (by first | exact Or.inl rfl | exact Or.inr rfl)) (pgs_cons (pg_name (i := 2) sc_is_sequence.nd rfl (by first | exact Or.inl rfl | exact Or.inr rfl)) pgs_nil)))) (fun _ _ _ _ _ => pts_nil) (fun _ _ _ _ _ => (pe_cmpR op_ne (pe_ix (ix_seqK (K := K) rfl) (pv 1) pe_int (fun _ _ => rfl)) (pe_ix (ix_seqK (K := K) rfl) (pv 2) pe_int (fun _ _ => rfl)) (nomark _)))) pa_nil))))), ?_⟩
    refine ⟨_, rfl, a, xs, 400, rfl, hx, fun H1 s1 => ⟨_, rfl, iteN ?_ ?_⟩⟩
    · show (!decide ((xs.length : Int) ≤ 400)) = false
      rw [decide_eq_true (by omega)]
      rfl
    refine ⟨a, xs, rfl, hx.same s1, fun J wk L nL => lc_wk wk (fun i H' => Same H1 H' ∧ H' L = some (.lst ((List.replicate i true).map V.bl))) (fun _ _ p => p.1) ⟨same_upd nL, upd_same⟩ (fun i x H2 ex p => ?_) (fun H2 p => ?_)⟩
    · obtain ⟨sm, hL⟩ := p
      obtain ⟨r, er, hr1⟩ := Paired.at hp ex
      have hi : i < xs.length := (List.getElem?_eq_some_iff.mp ex).1
      refine ⟨rfl, yesT ⟨_, rfl, x, r, rfl, RunG.same (s1.trans sm) hr1, rok r (List.mem_of_getElem? er), fun H3 s3 => ⟨_, s3 _ _ hL, ?_, same_grow nL (sm.trans s3), ?_⟩⟩⟩
      · simp only [List.length_map, List.length_replicate]
        exact small (by omega)
      · rw [upd_same, List.replicate_succ', List.map_append]
        rfl
    · refine ⟨L, _, rfl, .of p.2, _, rfl, iteN ?_ ?_⟩
      · rw [all_rep]
        rfl
      have s2 : Same H H2 := s1.trans p.1
      refine ⟨a, xs, rfl, hx.same s2, fun J Hc sc wk M nM => ?_⟩
      have sA : Same H Hc := s2.trans sc
      refine lc_gen (n := xs.length - 1) (fun i H' => Same Hc H' ∧ H' M = some (.lst ((List.replicate i true).map V.bl))) ⟨same_upd nM, upd_same⟩ (fun i H' hi p => wk.go i H' p.1 (by omega)) (fun H' p => wk.stop H' p.1) (fun i x H3 H4 hi p y => ?_) (fun H' p => ?_)
      · obtain ⟨T', x1, x2, rfl, nT, rfl, g1, g2⟩ := wk.yld i x H3 H4 p.1 y
        obtain ⟨sm, hM⟩ := p
        have g2 := g2 (by omega)
        have sB : Same H H3 := sA.trans sm
        obtain ⟨r1, e1, v1⟩ := Paired.at hp g1
        obtain ⟨r2, e2, v2⟩ := Paired.at hp g2
        obtain ⟨t1, rfl, w1⟩ := RunG.same (sB.trans (same_upd (o := .tup [x1, x2]) nT)) v1
        obtain ⟨t2, rfl, w2⟩ := RunG.same (sB.trans (same_upd (o := .tup [_, x2]) nT)) v2
        refine ⟨T', _, rfl, .of upd_same, rfl, _, _, rfl, _, _, rfl, rfl, rfl, yesT ?_⟩
        refine ⟨_, rfl, ix0 w1 ⟨_, rfl, ix0 w2 ⟨rfl, _, same_upd nT _ _ hM, ?_, same_grow nM (sm.trans (same_upd nT)), ?_⟩⟩⟩
        · simp only [List.length_map, List.length_replicate]
          exact small (by omega)
        · rw [upd_same, List.replicate_succ', List.map_append]
          have ne : (!decide (V.str r1.1 = V.str r2.1)) = true := by
            rw [decide_eq_false (fun z => alt i r1 r2 e1 e2 (V.str.inj z))]
            rfl
          rw [ne]
          rfl
      · refine ⟨M, _, rfl, .of p.2, ?_⟩
        rw [all_rep]
        exact q _ (sA.trans p.1)
/-! checked_runs: slots 0:sequence 1:kind 2:count -/
abbrev s_checked_runs : Stmt := topS 19
theorem sc_checked_runs : FnScope ["sequence", "kind", "count"] ["sequence"] (defScope s_checked_runs) := ⟨rfl, rfl, rfl, by decide +kernel, rfl, by decide +kernel, by decide +kernel⟩
def sp_checked_runs : Sp := fun vs H Q _ => ∃ (v : V) (rs : List Run), vs = [v] ∧ RunsG H v rs ∧ SeqOk rs ∧ ∀ H' p, Same H H' → H p = none → Runs H' p rs → Q (.ref p) H'
theorem ok_checked_runs (D : Df K mg "checked_runs" s_checked_runs) (T : Tx mg) (G_is_sequence : Has P w K mg base 4 "is_sequence" ["value"] sp_is_sequence) :
    Has P w K mg base 5 "checked_runs" ["sequence"] sp_checked_runs := by
  refine has_of D sc_checked_runs (fun _ _ _ _ _ _ us hl => match us, hl with | [_], _ => rfl) (fun vs H Q E h => ?_) (fun f cdv A outer s H vs Q E hr h => ?_)
  · obtain ⟨v, r, rfl, _⟩ := h
    rfl
  · obtain ⟨v, rs, rfl, hR, ok, q⟩ := h
    refine ⟨_, (pss_cons (ps_if (pt_not (pt_val (pe_callH G_is_sequence (hr.mono (by omega)) (by rfl) (pa_cons (pv 0) pa_nil)))) (pss_one ps_never) pss_nil)
    (pss_one (ps_ret (pe_lc (own := [("kind", 1), ("count", 2)]) rfl sc_checked_runs.nd (pi_seqV 0) (blkOk_by (N := ["sequence", "kind", "count"]) (sc := defScope s_checked_runs) (by decide +kernel)) (fun _ _ _ _ _ => (pg_any (n := 2) rfl (pgs_cons (pg_name (i := 1) sc_checked_runs.nd rfl (by first | exact Or.inl rfl | exact Or.inr rfl)) (pgs_cons (pg_name (i := 2) sc_checked_runs.nd rfl (by first | exact Or.inl rfl | exact Or.inr rfl)) pgs_nil)))) (fun _ _ _ _ _ => pts_nil) (fun _ _ _ _ _ => (pe_tup (pa_cons (pv 1) (pa_cons (pv 2) pa_nil)))))))), ?_⟩
    refine ⟨_, rfl, v, rs, rfl, hR, ok, fun H1 s1 => ⟨true, rfl, iteF ?_⟩⟩
    obtain ⟨a, xs, rfl, hx, hp⟩ := hR
    have lx : xs.length = rs.length := Paired.len hp
    refine ⟨a, xs, rfl, hx.same s1, fun J wk L nL => lc_wk wk (fun i H' => Same H1 H' ∧ ∃ ys, H' L = some (.lst ys) ∧ Paired (RunV H') ys (rs.take i)) (fun _ _ p => p.1) ⟨same_upd nL, [], upd_same, .nil⟩ (fun i x H2 ex p => ?_) (fun H2 p => ?_)⟩
    · obtain ⟨sm, ys, hL, hy⟩ := p
      obtain ⟨r, er, hr1⟩ := Paired.at hp ex
      have hi : i < xs.length := (List.getElem?_eq_some_iff.mp ex).1
      obtain ⟨t, rfl, ht⟩ := RunG.same (s1.trans sm) hr1
      refine ⟨t, _, rfl, ht, rfl, _, _, rfl, _, _, rfl, rfl, rfl, yesT ⟨_, rfl, _, rfl, (by show 2 ≤ sizeLine; decide), fun n nn => ⟨_, same_upd nn _ _ hL, ?_, same_grow nL (sm.trans (same_upd nn)), _, upd_same, ?_⟩⟩⟩
      · have := Paired.len hy
        rw [List.length_take] at this
        exact small (by have := ok.1; omega)
      · rw [take_snoc er]
        refine Paired.app (prs_grow (same_upd nn _ _ hL) (prs_same (same_upd nn) hy)) (.cons ?_ .nil)
        exact RunV.grow (same_upd nn _ _ hL) ⟨n, rfl, upd_same⟩
    · obtain ⟨sm, ys, hL, hy⟩ := p
      rw [lx, List.take_length] at hy
      exact q H2 L (s1.trans sm) (s1.free nL) ⟨ys, hL, hy⟩
/-! checked_state: slots 0:state -/
abbrev s_checked_state : Stmt := topS 21
theorem sc_checked_state : FnScope ["state"] ["state"] (defScope s_checked_state) := ⟨rfl, rfl, rfl, by decide +kernel, rfl, by decide +kernel, by decide +kernel⟩
def sp_checked_state : Sp := fun vs H Q _ => ∃ (v : V) (st : Option Run), vs = [v] ∧ StG H v st ∧ StOk st ∧ ∀ H' v', Same H H' → StV H' v' st → Q v' H'
theorem ok_checked_state (D : Df K mg "checked_state" s_checked_state) (T : Tx mg) (G_is_state : Has P w K mg base 2 "is_state" ["value"] sp_is_state) :
    Has P w K mg base 3 "checked_state" ["state"] sp_checked_state := by
  refine has_of D sc_checked_state (fun _ _ _ _ _ _ us hl => match us, hl with | [_], _ => rfl) (fun vs H Q E h => ?_) (fun f cdv A outer s H vs Q E hr h => ?_)
  · obtain ⟨v, r, rfl, _⟩ := h
    rfl
  · obtain ⟨v, st, rfl, hv, ok, q⟩ := h
    refine ⟨_, (pss_cons (ps_if (pt_not (pt_val (pe_callH G_is_state (hr.mono (by omega)) (by rfl) (pa_cons (pv 0) pa_nil)))) (pss_one ps_never) pss_nil)
    (pss_one (ps_ret (pe_ifExp (pt_cmpR op_isN (pv 0) pe_non (nomark _)) pe_non (pe_callTy call_tuple_of (by rfl) T.n_tuple (by decide +kernel) (pa_cons (pv 0) pa_nil)))))), ?_⟩
    refine ⟨_, rfl, v, st, rfl, hv, ok, fun H1 s1 => ⟨true, rfl, iteF ?_⟩⟩
    cases st with
    | none =>
      cases hv
      exact ⟨_, rfl, rfl, _, rfl, iteP rfl (q H1 _ s1 rfl)⟩
    | some r =>
      obtain ⟨t, rfl, ht⟩ := hv
      refine ⟨_, rfl, rfl, _, rfl, iteN rfl ⟨_, rfl, t, [.str r.1, .int r.2], rfl, ?_⟩⟩
      rcases ht.same s1 with z | z
      · exact .inl ⟨.of z, fun l nl => q _ _ (s1.trans (same_upd nl)) ⟨l, rfl, upd_same⟩⟩
      · exact .inr ⟨.of z, q H1 _ s1 ⟨t, rfl, z⟩⟩
end
end UP

set_option Elab.async false
set_option linter.all false
set_option maxRecDepth 100000
set_option maxHeartbeats 4000000
namespace UP
open PySem PySem.Spec PyProof.Rows L2
section
variable {P : Program} {w : World} {K : PySem.W.Frag} {mg : Str → Option Value} {base : Heap}
def lenR (rs : List Run) : Int := (rs.map (·.2)).sum
/-! length_of: slots 0:runs 1:kind 2:count -/
abbrev s_length_of : Stmt := topS 22
theorem sc_length_of : FnScope ["runs", "kind", "count"] ["runs"] (defScope s_length_of) := ⟨rfl, rfl, rfl, by decide +kernel, rfl, by decide +kernel, by decide +kernel⟩
def sp_length_of : Sp := fun vs H Q _ => ∃ (a : Addr) (rs : List Run), vs = [.ref a] ∧ Runs H a rs ∧ rs.length ≤ 1000 ∧ ∀ H', Same H H' → Q (.int (lenR rs)) H'
theorem ok_length_of (D : Df K mg "length_of" s_length_of) (T : Tx mg) : Has P w K mg base 1 "length_of" ["runs"] sp_length_of := by
  refine has_of D sc_length_of (fun _ _ _ _ _ _ us hl => match us, hl with | [_], _ => rfl) (fun vs H Q E h => ?_) (fun f cdv A outer s H vs Q E hr h => ?_)
  · obtain ⟨v, r, rfl, _⟩ := h
    rfl
  · obtain ⟨a, rs, rfl, ⟨xs, hx, hp⟩, l4, q⟩ := h
    have lx : xs.length = rs.length := Paired.len hp
    refine ⟨_, (pss_one (ps_ret (pe_callB (cr_sum rfl) (by rfl) T.n_sum (by decide +kernel) (pa_cons (pe_lc (own := [("kind", 1), ("count", 2)]) rfl sc_length_of.nd (pi_list (pv 0)) (blkOk_by (N := ["runs", "kind", "count"]) (sc := defScope s_length_of) (by decide +kernel)) (fun _ _ _ _ _ => (pg_tupK (K := K) (n := 2) rfl rfl (pgs_cons (pg_name (i := 1) sc_length_of.nd rfl (by first | exact Or.inl rfl | exact Or.inr rfl)) (pgs_cons (pg_name (i := 2) sc_length_of.nd rfl (by first | exact Or.inl rfl | exact Or.inr rfl)) pgs_nil)))) (fun _ _ _ _ _ => pts_nil) (fun _ _ _ _ _ => (pv 2))) pa_nil)))), ?_⟩
    refine ⟨_, rfl, a, rfl, ⟨xs, .of hx⟩, fun L nL => lc_list (K := K) (a := a) (xs := xs) (fun i H' => Same H H' ∧ H' L = some (.lst (((rs.map (·.2)).take i).map V.int))) ⟨same_upd nL, upd_same⟩ (fun i H' _ p => .of (p.1 _ _ hx)) (fun i x H2 ex p => ?_) (fun H2 p => ?_)⟩
    · obtain ⟨sm, hL⟩ := p
      obtain ⟨r, er, hr1⟩ := Paired.at hp ex
      have hi : i < xs.length := (List.getElem?_eq_some_iff.mp ex).1
      obtain ⟨t, rfl, ht⟩ := RunV.same sm hr1
      refine ⟨t, _, rfl, .of ht, rfl, _, _, rfl, _, _, rfl, rfl, rfl, yesT ⟨_, rfl, _, hL, ?_, same_grow nL sm, ?_⟩⟩
      · simp only [List.length_map, List.length_take]
        exact small (by omega)
      · rw [upd_same, take_snoc (x := r.2) (by rw [List.getElem?_map, er]; rfl), List.map_append]
        rfl
    · refine ⟨L, (rs.map (fun r : Run => r.2)), rfl, .of ?_, q H2 p.1⟩
      have := p.2
      rw [List.take_of_length_le (by rw [List.length_map]; omega)] at this
      exact this
end
end UP

set_option Elab.async false
set_option linter.all false
set_option maxRecDepth 100000
set_option maxHeartbeats 4000000
namespace UP
open PySem PySem.Spec PyProof.Rows L2
/-! ### the mirror of cut -/
theorem lenR_nil : lenR [] = 0 := rfl
theorem lenR_cons (r : Run) (l : List Run) : lenR (r :: l) = r.2 + lenR l := by
  unfold lenR
  rw [List.map_cons, List.sum_cons]
theorem lenR_app (l m : List Run) : lenR (l ++ m) = lenR l + lenR m := by
  induction l with
  | nil => rw [List.nil_append, lenR_nil]; omega
  | cons r t ih => rw [List.cons_append, lenR_cons, lenR_cons, ih]; omega
theorem lenR_snoc (l : List Run) (r : Run) : lenR (l ++ [r]) = lenR l + r.2 := by
  rw [lenR_app, lenR_cons, lenR_nil]
  omega
def sizeR (b s e c : Int) : Int := (if b + c < e then b + c else e) - (if b > s then b else s)
def pieceR (b s e : Int) (r : Run) : List Run := if 0 < sizeR b s e r.2 then [(r.1, sizeR b s e r.2)] else []
def cutR (s e : Int) : Int → List Run → List Run
  | _, [] => []
  | b, r :: t => pieceR b s e r ++ cutR s e (b + r.2) t
theorem cutR_snoc (s e : Int) : ∀ (l : List Run) (b : Int) (r : Run), cutR s e b (l ++ [r]) = cutR s e b l ++ pieceR (b + lenR l) s e r
  | [], b, r => by
    show pieceR b s e r ++ [] = [] ++ pieceR (b + lenR []) s e r
    rw [lenR_nil, Int.add_zero, List.append_nil, List.nil_append]
  | x :: t, b, r => by
    show pieceR b s e x ++ cutR s e (b + x.2) (t ++ [r]) = (pieceR b s e x ++ cutR s e (b + x.2) t) ++ pieceR (b + lenR (x :: t)) s e r
    rw [cutR_snoc s e t, lenR_cons, List.append_assoc, Int.add_assoc]
theorem pieceR_len (b s e : Int) (r : Run) : (pieceR b s e r).length ≤ 1 := by
  unfold pieceR
  split <;> simp
theorem cutR_len (s e : Int) : ∀ (l : List Run) (b : Int), (cutR s e b l).length ≤ l.length
  | [], _ => Nat.le_refl _
  | r :: t, b => by
    show (pieceR b s e r ++ cutR s e (b + r.2) t).length ≤ (r :: t).length
    have h1 := pieceR_len b s e r
    have h2 := cutR_len s e t (b + r.2)
    rw [List.length_append, List.length_cons]
    omega
section
variable {P : Program} {w : World} {K : PySem.W.Frag} {mg : Str → Option Value} {base : Heap}
end
end UP

set_option Elab.async false
set_option linter.all false
set_option maxRecDepth 100000
set_option maxHeartbeats 4000000
namespace UP
open PySem PySem.Spec PyProof.Rows L2
/-! ### the mirror of the states -/
def numR : Option Run → Int
  | none => 0
  | some r => r.2
def leavR : Option Run → Str → Int → Int
  | none, _, _ => 0
  | some r, k, c => if r.1 = k then 0 else if c < r.2 then c else r.2
def stepR : Option Run → Str → Int → Option Run
  | some r, k, c => if r.1 = k then some (k, r.2 + c) else if 0 < r.2 - c then some (r.1, r.2 - c) else if r.2 - c = 0 then none else some (k, -(r.2 - c))
  | none, k, c => some (k, c)
def withR (k : Str) (n : Int) : Option Run := if n = 0 then none else some (k, n)
def stR (rs : List Run) (st : Option Run) : Option Run := rs.foldl (fun s r => stepR s r.1 r.2) st
theorem stR_snoc (l : List Run) (r : Run) (st : Option Run) : stR (l ++ [r]) st = stepR (stR l st) r.1 r.2 := by
  unfold stR
  rw [List.foldl_append]
  rfl
section
variable {P : Program} {w : World} {K : PySem.W.Frag} {mg : Str → Option Value} {base : Heap}
/-! waiting_number: slots 0:state -/
abbrev s_waiting_number : Stmt := topS 25
theorem sc_waiting_number : FnScope ["state"] ["state"] (defScope s_waiting_number) := ⟨rfl, rfl, rfl, by decide +kernel, rfl, by decide +kernel, by decide +kernel⟩
def sp_waiting_number : Sp := fun vs H Q _ => ∃ (v : V) (st : Option Run), vs = [v] ∧ StV H v st ∧ Q (.int (numR st)) H
theorem ok_waiting_number (D : Df K mg "waiting_number" s_waiting_number) : Has P w K mg base 1 "waiting_number" ["state"] sp_waiting_number := by
  refine has_of D sc_waiting_number (fun _ _ _ _ _ _ us hl => match us, hl with | [_], _ => rfl) (fun vs H Q E h => ?_) (fun f cdv A outer s₀ H vs Q E hr h => ?_)
  · obtain ⟨a, rs, rfl, _⟩ := h
    rfl
  · obtain ⟨v, st, rfl, hv, q⟩ := h
    refine ⟨_, (pss_one (ps_ret (pe_ifExp (pt_cmpR op_isN (pv 0) pe_non (nomark _)) pe_int (pe_ix ix_tup (pv 0) pe_int (fun _ _ => rfl))))), ?_⟩
    cases st with
    | none =>
      cases hv
      exact ⟨_, rfl, rfl, _, rfl, iteP rfl q⟩
    | some r =>
      obtain ⟨t, rfl, ht⟩ := hv
      exact ⟨_, rfl, rfl, _, rfl, iteN rfl ⟨_, rfl, t, _, 1, _, rfl, rfl, .of ht, at1, q⟩⟩
/-! state_with: slots 0:kind 1:number -/
abbrev s_state_with : Stmt := topS 26
theorem sc_state_with : FnScope ["kind", "number"] ["kind", "number"] (defScope s_state_with) := ⟨rfl, rfl, rfl, by decide +kernel, rfl, by decide +kernel, by decide +kernel⟩
def sp_state_with : Sp := fun vs H Q _ => ∃ (k : Str) (n : Int), vs = [.str k, .int n] ∧ ∀ H' v', Same H H' → StV H' v' (withR k n) → Q v' H'
theorem ok_state_with (D : Df K mg "state_with" s_state_with) : Has P w K mg base 1 "state_with" ["kind", "number"] sp_state_with := by
  refine has_of D sc_state_with (fun _ _ _ _ _ _ us hl => match us, hl with | [_, _], _ => rfl) (fun vs H Q E h => ?_) (fun f cdv A outer s₀ H vs Q E hr h => ?_)
  · obtain ⟨k, n, rfl, _⟩ := h
    rfl
  · obtain ⟨k, n, rfl, q⟩ := h
    refine ⟨_, (pss_one (ps_ret (pe_ifExp (pt_cmpR op_eq (pv 1) pe_int (nomark _)) pe_non (pe_tup (pa_cons (pv 0) (pa_cons (pv 1) pa_nil)))))), ?_⟩
    refine ⟨_, rfl, rfl, _, rfl, ?_⟩
    by_cases e : n = 0
    · rw [show withR k n = none from if_pos e] at q
      exact iteP (decide_eq_true (by rw [e])) (q _ _ (Same.refl _) rfl)
    · rw [show withR k n = some (k, n) from if_neg e] at q
      refine iteN (decide_eq_false fun z => e (V.int.inj z)) ?_
      exact ⟨_, rfl, _, rfl, (by show 2 ≤ sizeLine; decide), fun n' nn => q _ _ (same_upd nn) ⟨n', rfl, upd_same⟩⟩
/-! state_after_run: slots 0:state 1:kind 2:count 3:left_over -/
abbrev s_state_after_run : Stmt := topS 27
theorem sc_state_after_run : FnScope ["state", "kind", "count", "left_over"] ["state", "kind", "count"] (defScope s_state_after_run) := ⟨rfl, rfl, rfl, by decide +kernel, rfl, by decide +kernel, by decide +kernel⟩
def sp_state_after_run : Sp := fun vs H Q _ => ∃ (v : V) (st : Option Run) (k : Str) (c : Int), vs = [v, .str k, .int c] ∧ StV H v st ∧ 1 ≤ c ∧ ∀ H' v', Same H H' → StV H' v' (stepR st k c) → Q v' H'
theorem ok_state_after_run (D : Df K mg "state_after_run" s_state_after_run) (G_waiting_number : Has P w K mg base 1 "waiting_number" ["state"] sp_waiting_number) (G_state_with : Has P w K mg base 1 "state_with" ["kind", "number"] sp_state_with) : Has P w K mg base 2 "state_after_run" ["state", "kind", "count"] sp_state_after_run := by
  refine has_of D sc_state_after_run (fun _ _ _ _ _ _ us hl => match us, hl with | [_, _, _], _ => rfl) (fun vs H Q E h => ?_) (fun f cdv A outer s₀ H vs Q E hr h => ?_)
  · obtain ⟨a, rs, _, _, rfl, _⟩ := h
    rfl
  · obtain ⟨v, st, k, c, rfl, hv, hc, q⟩ := h
    refine ⟨_, (pss_cons (ps_if (PW.pt (pw_and (pt_cmpR op_notN (pv 0) pe_non (nomark _)) (pw_and1 (pt_cmpR op_eq (pe_ix ix_tup (pv 0) pe_int (fun _ _ => rfl)) (pv 1) (nomark _))))) (pss_one (ps_ret (pe_tup (pa_cons (pv 1) (pa_cons (pe_op op_add (pe_ix ix_tup (pv 0) pe_int (fun _ _ => rfl)) (pv 2)) pa_nil))))) pss_nil)
    (pss_cons (ps_set (i := 3) sc_state_after_run.nd rfl (by first | exact Or.inl rfl | exact Or.inr rfl) (pe_op op_sub (pe_callH G_waiting_number (hr.mono (by omega)) (by rfl) (pa_cons (pv 0) pa_nil)) (pv 2)))
    (pss_cons (ps_if (pt_cmpR op_gt (pv 3) pe_int (nomark _)) (pss_one (ps_ret (pe_tup (pa_cons (pe_ix ix_tup (pv 0) pe_int (fun _ _ => rfl)) (pa_cons (pv 3) pa_nil))))) pss_nil)
    (pss_one (ps_ret (pe_callH G_state_with (hr.mono (by omega)) (by rfl) (pa_cons (pv 1) (pa_cons (pe_un un_neg (pv 3)) pa_nil)))))))), ?_⟩
    cases st with
    | none =>
      cases hv
      refine ⟨_, rfl, rfl, _, rfl, iteN rfl (iteF ?_)⟩
      refine ⟨_, rfl, _, none, rfl, rfl, _, rfl, _, _, rfl, rfl, ?_⟩
      refine ⟨_, rfl, _, _, rfl, rfl, _, rfl, iteN (decide_eq_false (by show ¬ (0 : Int) < 0 - c; omega)) ?_⟩
      refine ⟨_, rfl, _, rfl, _, rfl, k, -(0 - c), rfl, fun H' v' s h => q H' v' s ?_⟩
      have e : withR k (-(0 - c)) = some (k, c) := by
        unfold withR
        rw [if_neg (by omega), show -(0 - c) = c by omega]
      rw [e] at h
      exact h
    | some r =>
      obtain ⟨t, rfl, ht⟩ := hv
      refine ⟨_, rfl, rfl, _, rfl, iteP rfl ⟨_, rfl, t, _, 0, _, rfl, rfl, .of ht, at0, _, rfl, rfl, _, rfl, ?_⟩⟩
      by_cases e : r.1 = k
      · have es : stepR (some r) k c = some (k, r.2 + c) := if_pos e
        rw [es] at q
        refine iteP (by rw [e]; exact decide_eq_true rfl) ?_
        exact ⟨_, rfl, _, rfl, t, _, 1, _, rfl, rfl, .of ht, at1, _, rfl, _, _, rfl, rfl, (by show 2 ≤ sizeLine; decide), fun n nn => q _ _ (same_upd nn) ⟨n, rfl, upd_same⟩⟩
      · refine iteN (decide_eq_false fun z => e (V.str.inj z)) ?_
        have es : stepR (some r) k c = if 0 < r.2 - c then some (r.1, r.2 - c) else if r.2 - c = 0 then none else some (k, -(r.2 - c)) := if_neg e
        rw [es] at q
        refine ⟨_, rfl, _, some r, rfl, ⟨t, rfl, ht⟩, _, rfl, _, _, rfl, rfl, ?_⟩
        refine ⟨_, rfl, _, _, rfl, rfl, _, rfl, ?_⟩
        by_cases e1 : 0 < r.2 - c
        · rw [if_pos e1] at q
          refine iteP (decide_eq_true e1) ?_
          exact ⟨_, rfl, t, _, 0, _, rfl, rfl, .of ht, at0, _, rfl, (by show 2 ≤ sizeLine; decide), fun n nn => q _ _ (same_upd nn) ⟨n, rfl, upd_same⟩⟩
        · rw [if_neg e1] at q
          refine iteN (decide_eq_false e1) ⟨_, rfl, _, rfl, _, rfl, k, -(r.2 - c), rfl, fun H' v' s h => q H' v' s ?_⟩
          have e3 : withR k (-(r.2 - c)) = if r.2 - c = 0 then none else some (k, -(r.2 - c)) := by
            unfold withR
            by_cases e2 : r.2 - c = 0
            · rw [if_pos e2, if_pos (by omega)]
            · rw [if_neg e2, if_neg (by omega)]
          rw [e3] at h
          exact h
/-! state_after_runs: slots 0:runs 1:state 2:kind 3:count -/
abbrev s_state_after_runs : Stmt := topS 28
theorem sc_state_after_runs : FnScope ["runs", "state", "kind", "count"] ["runs", "state"] (defScope s_state_after_runs) := ⟨rfl, rfl, rfl, by decide +kernel, rfl, by decide +kernel, by decide +kernel⟩
def sp_state_after_runs : Sp := fun vs H Q _ => ∃ (a : Addr) (rs : List Run) (v : V) (st : Option Run), vs = [.ref a, v] ∧ Runs H a rs ∧ (∀ r ∈ rs, 1 ≤ r.2) ∧ StV H v st ∧ ∀ H' v', Same H H' → StV H' v' (stR rs st) → Q v' H'
theorem ok_state_after_runs (D : Df K mg "state_after_runs" s_state_after_runs) (G_state_after_run : Has P w K mg base 2 "state_after_run" ["state", "kind", "count"] sp_state_after_run) : Has P w K mg base 3 "state_after_runs" ["runs", "state"] sp_state_after_runs := by
  refine has_of D sc_state_after_runs (fun _ _ _ _ _ _ us hl => match us, hl with | [_, _], _ => rfl) (fun vs H Q E h => ?_) (fun f cdv A outer s₀ H vs Q E hr h => ?_)
  · obtain ⟨a, rs, _, _, rfl, _⟩ := h
    rfl
  · obtain ⟨a, rs, v, st, rfl, ⟨xs, hx, hp⟩, pos, hv, q⟩ := h
    have lx : xs.length = rs.length := Paired.len hp
    refine ⟨_, (pss_cons (ps_for PassesOwn.never rfl (pi_list (pv 0)) (pg_tup rfl (pgs_cons (pg_name (i := 2) sc_state_after_runs.nd rfl (by first | exact Or.inl rfl | exact Or.inr rfl)) (pgs_cons (pg_name (i := 3) sc_state_after_runs.nd rfl (by first | exact Or.inl rfl | exact Or.inr rfl)) pgs_nil)))
      (pss_one (ps_set (i := 1) sc_state_after_runs.nd rfl (by first | exact Or.inl rfl | exact Or.inr rfl) (pe_callH G_state_after_run (hr.mono (by omega)) (by rfl) (pa_cons (pv 1) (pa_cons (pv 2) (pa_cons (pv 3) pa_nil)))))))
    (pss_one (ps_ret (pv 1)))), ?_⟩
    refine ⟨_, rfl, a, rfl, ⟨xs, .of hx⟩, for_list (K := K) (a := a) (xs := xs) (fun i σ H' => ∃ v' y2 y3, σ = [some (.ref a), some v', y2, y3] ∧ Same H H' ∧ StV H' v' (stR (rs.take i) st))
      ⟨v, none, none, rfl, Same.refl H, hv⟩ (fun i σ H' _ hP => ?_) (fun i x σ H1 ex hP => ?_) (fun σ H1 hP => ?_)⟩
    · obtain ⟨_, _, _, _, sm, _⟩ := hP
      exact .of (sm _ _ hx)
    · obtain ⟨v', y2, y3, rfl, sm, hv'⟩ := hP
      obtain ⟨r, er, hr1⟩ := Paired.at hp ex
      obtain ⟨t, rfl, ht⟩ := RunV.same sm hr1
      refine ⟨t, _, rfl, .of ht, rfl, _, _, rfl, _, _, rfl, rfl, ?_⟩
      refine ⟨_, rfl, _, rfl, _, rfl, v', _, r.1, r.2, rfl, hv', pos r (List.mem_of_getElem? er), fun H2 v2 s2 h2 => ⟨v2, _, _, rfl, sm.trans s2, ?_⟩⟩
      rw [take_snoc er, stR_snoc]
      exact h2
    · obtain ⟨v', y2, y3, rfl, sm, hv'⟩ := hP
      rw [lx, List.take_length] at hv'
      exact ⟨_, rfl, q H1 v' sm hv'⟩
end
end UP

set_option Elab.async false
set_option linter.all false
set_option maxRecDepth 100000
set_option maxHeartbeats 4000000
namespace UP
open PySem PySem.Spec PyProof.Rows L2
def DfD (K : PySem.W.Frag) (mg : Str → Option Value) (x : Str) (st : Stmt) (dvs : List V) : Prop := ∃ f fd, mg x = some (.ref f) ∧ FunD K x x (defArgs st) (defBody st) (defScope st) dvs [] f fd
/-- a def whose last parameter, kw, has the default None -/
def HasD (P : Program) (w : World) (K : PySem.W.Frag) (mg : Str → Option Value) (base : Heap) (k : Nat) (x : Str) (ps : List Str) (n : Nat) (kw : Str) (sp : Sp) : Prop :=
  ∃ f fd, mg x = some (.ref f) ∧ PySem.W.keepIn K (.ref f) = true ∧ Binds K fd ps [] ∧ (∃ ds, Vals [.non] ds ∧ Binds K fd ps ds) ∧ KBn K fd ps n [kw] (fun us ws => us ++ ws) (fun vs zs => vs ++ zs) ∧ FnOk P w K mg base CX0 k f fd ps sp
section
variable {P : Program} {w : World} {K : PySem.W.Frag} {mg : Str → Option Value} {base : Heap}
theorem HasD.has {k n : Nat} {x kw : Str} {ps : List Str} {sp : Sp} (h : HasD P w K mg base k x ps n kw sp) : Has P w K mg base k x ps sp := by
  obtain ⟨f, fd, g, kp, b, _, _, F⟩ := h
  exact ⟨f, fd, g, kp, b, F⟩
theorem has_ofD {x kw : Str} {st : Stmt} {ps N : List Str} {k n : Nat} {sp : Sp} (D : DfD K mg x st [.non]) (S : FnScope N ps (defScope st)) (hpn : ps.length = n + 1)
    (hb : ∀ (T : Addr) (kV doc pm : Value) (an : Option Addr) (cdv ct : Value) (us its : List Value), us.length = n + 1 → its.length = 1 →
      ∃ k, bindArgs (PySem.W.fnOf x x (defArgs st) (defBody st) (defScope st) (.ref T) kV doc pm an cdv ct) ⟨us, []⟩ = seqItems? (.ref T) >>= k ∧ k (some its.toArray) = pure (ps.zip us))
    (hb1 : ∀ (T : Addr) (kV doc pm : Value) (an : Option Addr) (cdv ct : Value) (us its : List Value), us.length = n → its.length = 1 →
      ∃ k, bindArgs (PySem.W.fnOf x x (defArgs st) (defBody st) (defScope st) (.ref T) kV doc pm an cdv ct) ⟨us, []⟩ = seqItems? (.ref T) >>= k ∧ k (some its.toArray) = pure (ps.zip (us ++ its)))
    (hb2 : ∀ (T : Addr) (kV doc pm : Value) (an : Option Addr) (cdv ct : Value) (us its : List Value) (v : Value), us.length = n → its.length = 1 →
      ∃ k, bindArgs (PySem.W.fnOf x x (defArgs st) (defBody st) (defScope st) (.ref T) kV doc pm an cdv ct) ⟨us, [(kw, v)]⟩ = seqItems? (.ref T) >>= k ∧ k (some its.toArray) = pure (ps.zip (us ++ [v])))
    (len : ∀ vs H Q E, sp vs H Q E → vs.length = ps.length)
    (body : ∀ (f : Addr) (cdv : Value) (A : Around) (outer : List Env) (s : Shared) (H : Hp) (vs : List V) (Q : VK) (E : XK), Room k (A.deeper (envOfC x (defScope st) s.heap.objs.size f cdv)) → sp vs H Q E →
      ∃ t, PSs (cxOf CX0 P w K mg base N x (defScope st) f cdv A outer s H E).nox (defBody st) t ∧ t { nx := fun _ H' => Q .non H', rt := Q } (start N vs) H) :
    HasD P w K mg base (k + 1) x ps n kw sp := by
  obtain ⟨f, fd, g, F⟩ := D
  have B0 : Binds K fd ps [] := by
    obtain ⟨ds, v, b⟩ := F.binds1 (n + 1) 1 (ps := ps) (by intro z; cases z) (by rw [hpn]; rfl) fun T kV doc pm an cdv ct us its h1 h2 => by
      obtain ⟨k, e1, e2⟩ := hb T kV doc pm an cdv ct us its h1 h2
      refine ⟨k, e1, ?_⟩
      have h3 : its.length ≤ 1 := Nat.le_of_eq h2
      rw [e2, List.drop_of_length_le h3, List.append_nil]
    cases v
    exact b
  have B1 : ∃ ds, Vals [V.non] ds ∧ Binds K fd ps ds := by
    obtain ⟨ds, v, b⟩ := F.binds1 n 0 (ps := ps) (by intro z; cases z) (by rw [hpn]; rfl) fun T kV doc pm an cdv ct us its h1 h2 => by
      obtain ⟨k, e1, e2⟩ := hb1 T kV doc pm an cdv ct us its h1 h2
      exact ⟨k, e1, by rw [e2, List.drop_zero]⟩
    exact ⟨ds, v, b⟩
  have B2 : KBn K fd ps n [kw] (fun us ws => us ++ ws) (fun vs zs => vs ++ zs) := by
    refine ⟨fun s us ws X l1 l2 => ?_, fun r1 r2 => r1.append r2⟩
    obtain ⟨oc, od, dV, kV, doc, pm, an, cdv, ct, osl, rfl, lk, hcd, hD, _⟩ := F.ex
    rcases hD with ⟨z, _⟩ | ⟨_, T, o, its, m, rfl, lT, oT, rT⟩
    · cases z
    · match ws, l2 with
      | [v], _ =>
        obtain ⟨k, e1, e2⟩ := hb2 T kV doc pm an cdv ct us its v l1 rT.length.symm
        refine BindsTo.of_looks fun M => ?_
        show PySem.W.Looks M s.heap (bindArgs _ ⟨us, [(kw, v)]⟩) _
        rw [e1]
        exact looks_items X lT oT (.of_pure e2)
  refine ⟨f, fd, g, F.kp, B0, B1, B2, F.ok S len fun cdv A outer s H vs Q E hr h => ?_⟩
  obtain ⟨t, p, q⟩ := body f cdv A outer s H vs Q E hr h
  exact ⟨t, p.nox, q⟩
end
section
variable {X : Cx}
/-- the default taken -/
theorem pe_callDH {k n : Nat} {x kw : Str} {ps : List Str} {sp : Sp} {p pos : Pos} {e : Expr} {es : List Expr} {t : TA} (G : HasD X.prog X.w X.K X.mg X.base k x ps n kw sp) (hr : Room k X.A) (hg : Gl X x) (ha : PA X (e :: es) t)
    (hdb : (x == ("__debug__" : Str)) = false := by decide) (he : starEach (e :: es) X.env = (false, eval e X.env) :: starEach es X.env := by rfl) (hpl : (backTo pos (starEach es X.env)).any (·.1) = false := by rfl) :
    PE X (.Call (.Name x p) (e :: es) [] pos) (tCall sp [.non] E0 t) := by
  obtain ⟨f, fd, g, kp, _, ⟨ds, v, b⟩, _, F⟩ := G
  exact pe_call F hr hg g kp b v pass0 ha hdb he hpl
/-- the last one by its name -/
theorem pe_callNH {k n : Nat} {x kw : Str} {ps : List Str} {sp : Sp} {p pos : Pos} {e : Expr} {es : List Expr} {kws : List Keyword} {t tk : TA} (G : HasD X.prog X.w X.K X.mg X.base k x ps n kw sp) (hr : Room k X.A) (hg : Gl X x) (ha : PA X (e :: es) t) (hk : PK X kws tk)
    (h1 : (backToKw pos (keywordEach kws X.env)).all (·.1.isSome) = true := by rfl) (h2 : (backToKw pos (keywordEach kws X.env)).filterMap (·.1) = [kw] := by rfl) (hdb : (x == ("__debug__" : Str)) = false := by decide)
    (he : starEach (e :: es) X.env = (false, eval e X.env) :: starEach es X.env := by rfl) (hpl : ((backTo pos (starEach (e :: es) X.env)).any (·.1) || (backToKw pos (keywordEach kws X.env)).any (·.1.isNone)) = false := by rfl) :
    PE X (.Call (.Name x p) (e :: es) kws pos) (tCallN n 1 sp (fun vs zs => vs ++ zs) E0 t tk) := by
  obtain ⟨f, fd, g, kp, _, _, b, F⟩ := G
  exact pe_callN F hr hg g kp b pass0 ha hk h1 h2 hdb he hpl
end
section
variable {P : Program} {w : World} {K : PySem.W.Frag} {mg : Str → Option Value} {base : Heap}
theorem SeqOk.pos {rs : List Run} (h : SeqOk rs) : ∀ r ∈ rs, 1 ≤ r.2 := fun r m => (h.2.1 r m).2.1
theorem pieceR_pos {b s e : Int} {r x : Run} (h : x ∈ pieceR b s e r) : 1 ≤ x.2 := by
  unfold pieceR at h
  split at h
  · rename_i z
    simp only [List.mem_singleton] at h
    subst h
    show 1 ≤ sizeR b s e r.2
    omega
  · cases h
theorem cutR_pos {s e : Int} : ∀ {l : List Run} {b : Int}, ∀ x ∈ cutR s e b l, 1 ≤ x.2
  | [], _, x, h => by cases h
  | r :: t, b, x, h => by
    rcases List.mem_append.mp (show x ∈ pieceR b s e r ++ cutR s e (b + r.2) t from h) with h | h
    · exact pieceR_pos h
    · exact cutR_pos x h
end
end UP

set_option Elab.async false
set_option linter.all false
set_option maxRecDepth 100000
set_option maxHeartbeats 4000000
namespace UP
open PySem PySem.Spec PyProof.Rows L2
section
variable {P : Program} {w : World} {K : PySem.W.Frag} {mg : Str → Option Value} {base : Heap}
end
end UP

set_option Elab.async false
set_option linter.all false
set_option maxRecDepth 100000
set_option maxHeartbeats 4000000
namespace UP
open PySem PySem.Spec PyProof.Rows L2
/-! ### data -/
def dRun (r : Run) : PyData := .tuple [.str r.1, .int r.2]
theorem dp_run {K : PySem.W.Frag} {H : Hp} {v : V} {r : Run} (h : RunV H v r) : Dp K H v (dRun r) := by
  obtain ⟨t, rfl, h⟩ := h
  exact .tup (.of h) (.cons (.str _) (.cons (.int _) .nil))
theorem dp_all {K : PySem.W.Frag} {H : Hp} : ∀ {xs : List V} {rs : List Run}, Paired (RunV H) xs rs → DpAll K H xs (rs.map dRun)
  | _, _, .nil => .nil
  | _, _, .cons h t => .cons (dp_run h) (dp_all t)
theorem KindOk.str {s : Str} (h : KindOk s) : PyData.strOk s = true := by
  unfold PyData.strOk
  rw [Array.all_eq_true']
  intro c hc
  have := h.2.2 c (by simpa using hc)
  exact decide_eq_true (by omega)
theorem can_run {r : Run} (h : KindOk r.1) : (dRun r).canLay0 = true := by
  simp [dRun, PyData.canLay0, PyData.canLayAll0, h.str]
theorem can_runs : ∀ {rs : List Run}, (∀ r ∈ rs, KindOk r.1) → PyData.canLayAll0 (rs.map dRun) = true
  | [], _ => by simp [PyData.canLayAll0]
  | r :: t, h => by
    rw [List.map_cons, PyData.canLayAll0, can_run (h r (List.mem_cons_self ..)), can_runs fun x hx => h x (List.mem_cons_of_mem _ hx)]
    rfl
theorem depth_run (r : Run) : (dRun r).depth ≤ 2 := by
  simp [dRun, PyData.depth, PyData.depthAll]
theorem depth_runs : ∀ (rs : List Run), PyData.depthAll (rs.map dRun) ≤ 2
  | [] => by simp [PyData.depthAll]
  | r :: t => by
    rw [List.map_cons, PyData.depthAll]
    exact Nat.max_le.mpr ⟨depth_run r, depth_runs t⟩
theorem shaped_runs {rs : List Run} (h : ∀ r ∈ rs, KindOk r.1) : SeqAt.shaped (.list (rs.map dRun)) = true := by
  unfold SeqAt.shaped
  rw [PyData.canLay0, can_runs h, PyData.depth]
  have := depth_runs rs
  exact decide_eq_true (by omega)
theorem shaped_run {r : Run} (h : KindOk r.1) : SeqAt.shaped (dRun r) = true := by
  unfold SeqAt.shaped
  rw [can_run h]
  have := depth_run r
  exact decide_eq_true (by omega)
theorem shaped_nil : SeqAt.shaped (.list []) = true := by decide
theorem eqv_nil (rs : List Run) : PyData.eqv (.list (rs.map dRun)) (.list []) = rs.isEmpty := by
  cases rs with
  | nil => simp [PyData.eqv, PyData.eqvAll]
  | cons r t => simp [PyData.eqv, PyData.eqvAll]
theorem sb {sp : Addr} {H H' : Hp} (h : Same H H') : But sp H H' := fun b o _ e => h b o e
theorem But.free {sp : Addr} {H H' : Hp} (b : But sp H H') (z : Spr H' sp) {p : Addr} (h : H' p = none) : H p = none := by
  by_cases e : p = sp
  · subst e
    obtain ⟨_, _, _, h1, _⟩ := z
    rw [h1] at h
    cases h
  · cases q : H p with
    | none => rfl
    | some o =>
      rw [b p o e q] at h
      cases h
theorem Spr.ne {sp p : Addr} {H : Hp} (z : Spr H sp) (h : H p = none) : p ≠ sp := by
  obtain ⟨_, _, _, h1, _⟩ := z
  exact fun e => by rw [e, h1] at h; cases h
instance (s : Str) : Decidable (KindOk s) := by
  unfold KindOk
  infer_instance
section
variable {P : Program} {w : World} {K : PySem.W.Frag} {mg : Str → Option Value} {base : Heap}
end
end UP

set_option Elab.async false
set_option linter.all false
set_option maxRecDepth 100000
set_option maxHeartbeats 4000000
namespace UP
open PySem PySem.Spec PyProof.Rows L2
theorem pe_bmK {X : Cx} {K : PySem.W.Frag} {e : Expr} {c : String} {r : V → List V → Hp → VK → Prop} {to : TE} {t : TA} (h : X.K = K) (p : PE X e (tBM X.K c r to t)) : PE X e (tBM K c r to t) := h ▸ p
theorem if_by {c : TT} {t u : TS} {D : Ends} {σ : L2.St} {H : Hp} (R : Bool → Hp → Prop) (h : ∀ Q' : Bool → Hp → Prop, (∀ b H', R b H' → Q' b H') → c σ H Q') (ht : ∀ H', R true H' → t D σ H') (hu : ∀ H', R false H' → u D σ H') : tIfS c t u D σ H := by
  refine h _ fun b H' r => ?_
  cases b with
  | true => exact iteT (ht H' r)
  | false => exact iteF (hu H' r)
theorem erase_map {α β : Type} (f : α → β) : ∀ (l : List α) (i : Nat), (l.map f).eraseIdx i = (l.eraseIdx i).map f
  | [], _ => rfl
  | x :: t, 0 => rfl
  | x :: t, i + 1 => by
    simp only [List.map_cons, List.eraseIdx_cons_succ]
    rw [erase_map f t i]
def eight : List Str := ["a", "b", "c", "ab", "zz", "abcdefgh", "aa", "z"]
theorem eight_ok : ∀ s ∈ eight, KindOk s := by decide +kernel
theorem alt_snoc {l : List Run} {x : Run} (h : Alt l) (k : ∀ y, l[l.length - 1]? = some y → y.1 ≠ x.1) : Alt (l ++ [x]) := by
  intro i a b ha hb
  by_cases h1 : i + 1 < l.length
  · rw [List.getElem?_append_left (by omega)] at ha
    rw [List.getElem?_append_left h1] at hb
    exact h i a b ha hb
  · by_cases h2 : i + 1 = l.length
    · rw [List.getElem?_append_left (by omega)] at ha
      rw [List.getElem?_append_right (by omega), h2, Nat.sub_self] at hb
      cases hb
      rw [show i = l.length - 1 by omega] at ha
      exact k a ha
    · rw [List.getElem?_append_right (by omega)] at hb
      rw [List.getElem?_eq_none (by simp; omega)] at hb
      cases hb
theorem pow62 {x : Int} (h0 : 0 ≤ x) (h1 : x ≤ 1000000) : -(2 ^ 62) ≤ x ∧ x < 2 ^ 62 := by omega
theorem wide8 {m : Int} (h0 : 0 ≤ m) (h1 : m ≤ 1000000000000000000000000000000000000000000000000000000000000) : m.natAbs < 2 ^ 8000 :=
  Nat.lt_of_lt_of_le (show m.natAbs < 2 ^ 256 by omega) (Nat.pow_le_pow_right (by decide) (by decide))
section
variable {P : Program} {w : World} {K : PySem.W.Frag} {mg : Str → Option Value} {base : Heap}
end
end UP

set_option Elab.async false
set_option linter.all false
set_option maxRecDepth 100000
set_option maxHeartbeats 4000000
namespace UP
open PySem PySem.Spec PyProof.Rows L2
def scR (t : Int) (rs : List Run) : List Run := rs.map fun r => (r.1, r.2 * t)
def toldR (ws : List Run) : Option Run := match ws with
  | [] => none
  | r :: _ => some (r.1, (ws.length : Int))
def repR (k : Str) (n : Int) : Option Run := if n = 0 then none else some (k, n)
theorem repR_zero (k : Str) : repR k 0 = none := if_pos rfl
theorem repR_pos {k : Str} {n : Int} (h : 0 < n) : repR k n = some (k, n) := if_neg (by omega)
def PosO (st : Option Run) : Prop := ∀ r, st = some r → 1 ≤ r.2
theorem stepR_pos {st : Option Run} {k : Str} {c : Int} (h : PosO st) (hc : 1 ≤ c) : PosO (stepR st k c) := by
  intro r e
  cases st with
  | none =>
    cases e
    exact hc
  | some x =>
    have hx := h x rfl
    have e : (if x.1 = k then some (k, x.2 + c) else if 0 < x.2 - c then some (x.1, x.2 - c) else if x.2 - c = 0 then none else some (k, -(x.2 - c))) = some r := e
    by_cases h1 : x.1 = k
    · rw [if_pos h1] at e
      cases e
      show 1 ≤ x.2 + c
      omega
    · rw [if_neg h1] at e
      by_cases h2 : 0 < x.2 - c
      · rw [if_pos h2] at e
        cases e
        show 1 ≤ x.2 - c
        omega
      · rw [if_neg h2] at e
        by_cases h3 : x.2 - c = 0
        · rw [if_pos h3] at e
          cases e
        · rw [if_neg h3] at e
          cases e
          show 1 ≤ -(x.2 - c)
          omega
theorem stR_cons (r : Run) (l : List Run) (st : Option Run) : stR (r :: l) st = stR l (stepR st r.1 r.2) := rfl
theorem stR_pos : ∀ {rs : List Run} {st : Option Run}, PosO st → (∀ r ∈ rs, 1 ≤ r.2) → PosO (stR rs st)
  | [], _, h, _ => h
  | r :: t, st, h, k => by
    rw [stR_cons]
    exact stR_pos (stepR_pos h (k r (List.mem_cons_self ..))) fun x hx => k x (List.mem_cons_of_mem _ hx)
theorem StOk.pos {st : Option Run} (h : StOk st) : PosO st := fun r e => (h r e).2
section
variable {P : Program} {w : World} {K : PySem.W.Frag} {mg : Str → Option Value} {base : Heap}
end
end UP

set_option Elab.async false
set_option linter.all false
set_option maxRecDepth 100000
set_option maxHeartbeats 4000000
namespace UP
open PySem PySem.Spec PyProof.Rows L2
/-! ### plain data, by depth -/
def Dsc (v : V) (d : PyData) : Prop := (v = .non ∧ d = .none) ∨ (∃ b, v = .bl b ∧ d = .bool b) ∨ (∃ i, v = .int i ∧ d = .int i) ∨ ∃ s, v = .str s ∧ d = .str s
def Dt (H : Hp) : Nat → V → PyData → Prop
  | 0, v, d => Dsc v d
  | n + 1, v, d => Dsc v d ∨ (∃ a xs ds, v = .ref a ∧ H a = some (.lst xs) ∧ d = .list ds ∧ Paired (Dt H n) xs ds ∧ ds.length ≤ 100000) ∨ ∃ a xs ds, v = .ref a ∧ H a = some (.tup xs) ∧ d = .tuple ds ∧ Paired (Dt H n) xs ds ∧ ds.length ≤ 100000
theorem Dt.same {H H' : Hp} (s : Same H H') : ∀ {n : Nat} {v : V} {d : PyData}, Dt H n v d → Dt H' n v d
  | 0, _, _, h => h
  | n + 1, v, d, h => by
    rcases h with h | ⟨a, xs, ds, e, h, e2, p, l⟩ | ⟨a, xs, ds, e, h, e2, p, l⟩
    · exact .inl h
    · exact .inr (.inl ⟨a, xs, ds, e, s _ _ h, e2, Paired.imp (fun _ _ z => Dt.same s z) p, l⟩)
    · exact .inr (.inr ⟨a, xs, ds, e, s _ _ h, e2, Paired.imp (fun _ _ z => Dt.same s z) p, l⟩)
theorem dsc_ref {a : Addr} {d : PyData} (h : Dsc (.ref a) d) : False := by
  rcases h with ⟨h, _⟩ | ⟨_, h, _⟩ | ⟨_, h, _⟩ | ⟨_, h, _⟩ <;> cases h
theorem dsc_lst {v : V} {ds : List PyData} (h : Dsc v (.list ds)) : False := by
  rcases h with ⟨_, h⟩ | ⟨_, _, h⟩ | ⟨_, _, h⟩ | ⟨_, _, h⟩ <;> cases h
theorem dsc_tup {v : V} {ds : List PyData} (h : Dsc v (.tuple ds)) : False := by
  rcases h with ⟨_, h⟩ | ⟨_, _, h⟩ | ⟨_, _, h⟩ | ⟨_, _, h⟩ <;> cases h
theorem dsc_one {v v' : V} {d : PyData} (h : Dsc v d) (h' : Dsc v' d) : v = v' := by
  rcases h with ⟨e, z⟩ | ⟨x, e, z⟩ | ⟨x, e, z⟩ | ⟨x, e, z⟩ <;> subst z <;> rcases h' with ⟨e', z⟩ | ⟨y, e', z⟩ | ⟨y, e', z⟩ | ⟨y, e', z⟩ <;> cases z <;> rw [e, e']
theorem kit_no {K : PySem.W.Frag} {c : String} (h1 : kitB c "list" = some false) (h2 : kitB c "tuple" = some false) : PySem.W.kitAny K (.type c) [.type "list", .type "tuple"] = some false :=
  kitAny_cons (b := false) (kit_ty h1) (fun _ => kitAny_cons (b := false) (kit_ty h2) (fun _ => rfl) (fun z => nomatch z)) (fun z => nomatch z)
theorem ixL {K : PySem.W.Frag} {x y : V} {H : Hp} {Q : VK} (h : rIxL K x y H Q) : rIx K x y H Q := .inl h
theorem ixT {K : PySem.W.Frag} {x y : V} {H : Hp} {Q : VK} (h : rIxT K x y H Q) : rIx K x y H Q := .inr (.inl h)
section
variable {P : Program} {w : World} {K : PySem.W.Frag} {mg : Str → Option Value} {base : Heap}
end
end UP

set_option Elab.async false
set_option linter.all false
set_option maxRecDepth 100000
set_option maxHeartbeats 4000000
namespace UP
open PySem PySem.Spec PyProof.Rows L2
/-! ### a walk over one object that stays, whatever else is changed -/
structure WkA (J : It) (H : Hp) (a : Addr) (xs : List V) : Prop where
  go : ∀ i H', H' a = H a → i < xs.length → J.go i H'
  stop : ∀ H', H' a = H a → J.stop xs.length H'
  yld : ∀ i x H' H'', H' a = H a → J.yld i H' x H'' → H'' = H' ∧ xs[i]? = some x
def iSeqA (i : Nat) : TI := fun σ H R => ∃ a xs, σ[i]? = some (some (.ref a)) ∧ Sq2 H a xs ∧ ∀ J, WkA J H a xs → R J H
section
variable {X : Cx}
theorem wka_list {K : PySem.W.Frag} {H : Hp} {a : Addr} {xs : List V} (h : H a = some (.lst xs)) : WkA (Itl K a) H a xs :=
  ⟨fun i H' e hi => ⟨xs, xs[i], .of (e.trans h), List.getElem?_eq_getElem hi⟩, fun H' e => ⟨xs, .of (e.trans h), Nat.le_refl _⟩, fun i x H' H'' e y => ⟨y.1, y.2 xs (.of (e.trans h))⟩⟩
theorem wka_tup {K : PySem.W.Frag} {H : Hp} {a : Addr} {xs : List V} (h : H a = some (.tup xs)) : WkA (Itt K a) H a xs :=
  ⟨fun i H' e hi => ⟨xs, xs[i], .of (e.trans h), List.getElem?_eq_getElem hi⟩, fun H' e => ⟨xs, .of (e.trans h), Nat.le_refl _⟩, fun i x H' H'' e y => ⟨y.1, y.2 xs (.of (e.trans h))⟩⟩
theorem pi_seqA (i : Nat) {x : Str} {pos : Pos} {tg : Expr} (hN : X.N[i]? = some x := by rfl) (hv : Vis X.env.scope x := by first | exact Or.inl rfl | exact Or.inr (Or.inl rfl) | exact Or.inr (Or.inr rfl)) (hd : (x == ("__debug__" : Str)) = false := by decide)
    (hc : (x == ("__classdict__" : Str)) = false := by decide) : PI X tg (.Name x pos) (iSeqA i) := by
  refine ⟨fun pins s σ H R I hw => ?_⟩
  obtain ⟨a, xs, e, h, k⟩ := hw
  rcases h with h | h
  · exact (pi_list (pe_var hN hv hd hc)).run pins s σ H R I ⟨_, e, a, rfl, ⟨xs, .of h⟩, k _ (wka_list h)⟩
  · exact (pi_tup (pe_var hN hv hd hc)).run pins s σ H R I ⟨_, e, a, rfl, ⟨xs, .of h⟩, k _ (wka_tup h)⟩
end
theorem lc_wka {J : It} {H0 H1 : Hp} {a : Addr} {xs : List V} {g : TG} {tt : TT} {te : TE} {vs : List Nat} {σ : L2.St} {D : Addr} {Qd : Hp → Prop} (wk : WkA J H0 a xs) (Pv : Nat → Hp → Prop) (hsm : ∀ i H, Pv i H → H a = H0 a) (h0 : Pv 0 (upd H1 D (.lst [])))
    (hs : ∀ i x H, xs[i]? = some x → Pv i H → g x (wipe σ vs) H fun σ2 H2 => wipe σ2 vs = wipe σ vs ∧ tt σ2 H2 fun b H3 =>
      if b = true then te σ2 H3 fun y H4 => ∃ acc, H4 D = some (.lst acc) ∧ acc.length < sizeLine ∧ Pv (i + 1) (upd H4 D (.lst (acc ++ [y]))) else Pv (i + 1) H3) (hd : ∀ H, Pv xs.length H → Qd H) :
    ∃ W : Nat → Nat → Hp → Prop, (∃ m, W 0 m (upd H1 D (.lst []))) ∧ ∀ i m H, W i m H →
      (J.stop i H ∧ Qd H) ∨ (J.go i H ∧ ∃ Nx : Hp → Prop, (∀ H', Nx H' → ∃ m', m' < m ∧ W (i + 1) m' H') ∧ ∀ x H', J.yld i H x H' → g x (wipe σ vs) H' fun σ2 H2 => wipe σ2 vs = wipe σ vs ∧ tt σ2 H2 fun b H3 =>
        if b = true then te σ2 H3 fun y H4 => ∃ acc, H4 D = some (.lst acc) ∧ acc.length < sizeLine ∧ Nx (upd H4 D (.lst (acc ++ [y]))) else Nx H3) := by
  refine lc_gen Pv h0 (fun i H hi p => wk.go i H (hsm i H p) hi) (fun H p => wk.stop H (hsm _ H p)) (fun i x H H' hi p y => ?_) hd
  obtain ⟨e, ex⟩ := wk.yld i x H H' (hsm i H p) y
  subst e
  exact hs i x _ ex p
theorem for_gen {J : It} {n : Nat} {H : Hp} {g : TG} {tb : TS} {D : Ends} {σ : L2.St} (Pv : Nat → L2.St → Hp → Prop) (h0 : Pv 0 σ H) (hg : ∀ i σ H, i < n → Pv i σ H → J.go i H) (hst : ∀ σ H, Pv n σ H → J.stop n H)
    (hs : ∀ i x σ H H', i < n → Pv i σ H → J.yld i H x H' → g x σ H' fun σ2 H2 => tb { D with nx := Pv (i + 1), ct := Pv (i + 1), bk := D.nx } σ2 H2) (hd : ∀ σ H, Pv n σ H → D.nx σ H) :
    ∃ W : Nat → Nat → L2.St → Hp → Prop, (∃ m, W 0 m σ H) ∧ ∀ i m σ H, W i m σ H →
      (J.stop i H ∧ D.nx σ H) ∨ (J.go i H ∧ ∃ N : L2.St → Hp → Prop, (∀ σ' H', N σ' H' → ∃ m', m' < m ∧ W (i + 1) m' σ' H') ∧ ∀ x H', J.yld i H x H' → g x σ H' fun σ2 H2 => tb { D with nx := N, ct := N, bk := D.nx } σ2 H2) := by
  refine ⟨fun i m σ H => m = n - i ∧ i ≤ n ∧ Pv i σ H, ⟨n, by omega, Nat.zero_le _, h0⟩, ?_⟩
  rintro i m σ H ⟨rfl, hi, p⟩
  by_cases hlt : i < n
  · exact Or.inr ⟨hg i σ H hlt p, Pv (i + 1), fun σ' H' p' => ⟨n - (i + 1), by omega, rfl, hlt, p'⟩, fun x H' y => hs i x σ H H' hlt p y⟩
  · have e : i = n := by omega
    subst e
    exact Or.inl ⟨hst σ H p, hd σ H p⟩
theorem for_wka {J : It} {H0 H : Hp} {a : Addr} {xs : List V} {g : TG} {tb : TS} {D : Ends} {σ : L2.St} (wk : WkA J H0 a xs) (Pv : Nat → L2.St → Hp → Prop) (hsm : ∀ i σ H, Pv i σ H → H a = H0 a) (h0 : Pv 0 σ H)
    (hs : ∀ i x σ H, xs[i]? = some x → Pv i σ H → g x σ H fun σ2 H2 => tb { D with nx := Pv (i + 1), ct := Pv (i + 1), bk := D.nx } σ2 H2) (hd : ∀ σ H, Pv xs.length σ H → D.nx σ H) :
    ∃ W : Nat → Nat → L2.St → Hp → Prop, (∃ m, W 0 m σ H) ∧ ∀ i m σ H, W i m σ H →
      (J.stop i H ∧ D.nx σ H) ∨ (J.go i H ∧ ∃ N : L2.St → Hp → Prop, (∀ σ' H', N σ' H' → ∃ m', m' < m ∧ W (i + 1) m' σ' H') ∧ ∀ x H', J.yld i H x H' → g x σ H' fun σ2 H2 => tb { D with nx := N, ct := N, bk := D.nx } σ2 H2) := by
  refine for_gen Pv h0 (fun i σ H hi p => wk.go i H (hsm i σ H p) hi) (fun σ H p => wk.stop H (hsm _ σ H p)) (fun i x σ H H' hi p y => ?_) hd
  obtain ⟨e, ex⟩ := wk.yld i x H H' (hsm i σ H p) y
  subst e
  exact hs i x σ _ ex p
theorem Sq2.eq {H H' : Hp} {a : Addr} {xs : List V} (h : Sq2 H a xs) (s : Same H H') : H' a = H a := h.elim (fun z => (s _ _ z).trans z.symm) (fun z => (s _ _ z).trans z.symm)
/-! ### data without its dress -/
def Sim (N : Addr → Prop) (H : Hp) : Nat → V → PyData → Prop
  | 0, v, d => Dsc v d
  | n + 1, v, d => Dsc v d ∨ ∃ a xs ds, v = .ref a ∧ N a ∧ Sq2 H a xs ∧ d = .list ds ∧ Paired (Sim N H n) xs ds ∧ ds.length ≤ 1000
theorem Sim.keep {N N' : Addr → Prop} {H H' : Hp} (hn : ∀ a, N a → N' a) (hk : ∀ a o, N a → H a = some o → H' a = some o) : ∀ {n : Nat} {v : V} {d : PyData}, Sim N H n v d → Sim N' H' n v d
  | 0, _, _, h => h
  | n + 1, v, d, h => by
    rcases h with h | ⟨a, xs, ds, e, na, hx, e2, p, l⟩
    · exact .inl h
    · exact .inr ⟨a, xs, ds, e, hn a na, hx.elim (fun z => .inl (hk _ _ na z)) (fun z => .inr (hk _ _ na z)), e2, Paired.imp (fun _ _ z => Sim.keep hn hk z) p, l⟩
theorem Sim.dsc {N : Addr → Prop} {H : Hp} {v : V} {d : PyData} : ∀ {n : Nat}, Dsc v d → Sim N H n v d
  | 0, h => h
  | n + 1, h => .inl h
section
variable {P : Program} {w : World} {K : PySem.W.Frag} {mg : Str → Option Value} {base : Heap}
end
end UP

set_option Elab.async false
set_option linter.all false
set_option maxRecDepth 100000
set_option maxHeartbeats 4000000
namespace UP
open PySem PySem.Spec PyProof.Rows L2
/-! ### waiting items one by one -/
def plS (ws : List Run) (k : Str) (n : Nat) : List Run := match ws with
  | [] => [(k, (n : Int))]
  | r :: t => if r.1 = k then (r :: t) ++ [(k, (n : Int))] else t
def plP (ws : List Run) (k : Str) (n : Nat) : List (Int × Int) := match ws with
  | [] => []
  | r :: _ => if r.1 = k then [] else [(r.2, (n : Int))]
def plA (ws : List Run) (n : Nat) : List Str → List Run
  | [] => ws
  | k :: t => plA (plS ws k n) (n + 1) t
def psR (ws : List Run) (n : Nat) : List Str → List (Int × Int)
  | [] => []
  | k :: t => plP ws k n ++ psR (plS ws k n) (n + 1) t
theorem plA_snoc : ∀ (l : List Str) (ws : List Run) (n : Nat) (k : Str), plA ws n (l ++ [k]) = plS (plA ws n l) k (n + l.length)
  | [], ws, n, k => rfl
  | x :: t, ws, n, k => by
    show plA (plS ws x n) (n + 1) (t ++ [k]) = plS (plA (plS ws x n) (n + 1) t) k (n + (x :: t).length)
    rw [plA_snoc t, List.length_cons, show n + 1 + t.length = n + (t.length + 1) by omega]
theorem psR_snoc : ∀ (l : List Str) (ws : List Run) (n : Nat) (k : Str), psR ws n (l ++ [k]) = psR ws n l ++ plP (plA ws n l) k (n + l.length)
  | [], ws, n, k => by
    show plP ws k n ++ [] = [] ++ plP ws k (n + 0)
    rw [List.append_nil, List.nil_append, Nat.add_zero]
  | x :: t, ws, n, k => by
    show plP ws x n ++ psR (plS ws x n) (n + 1) (t ++ [k]) = (plP ws x n ++ psR (plS ws x n) (n + 1) t) ++ plP (plA (plS ws x n) (n + 1) t) k (n + (x :: t).length)
    rw [psR_snoc t, List.length_cons, List.append_assoc, show n + 1 + t.length = n + (t.length + 1) by omega]
def plMs (ws : List Run) (ks : List Str) : List (List Run) := (List.range (ks.length + 1)).map fun m => plA ws 0 (ks.take m)
theorem plMs_snoc (ws : List Run) (l : List Str) (k : Str) : plMs ws (l ++ [k]) = plMs ws l ++ [plA ws 0 (l ++ [k])] := by
  unfold plMs
  rw [List.length_append, List.length_cons, List.length_nil, Nat.zero_add, List.range_succ, List.map_append]
  congr 1
  · refine List.map_congr_left fun m hm => ?_
    have : m ≤ l.length := by
      have := List.mem_range.mp hm
      omega
    rw [List.take_append_of_le_length this]
  · rw [List.map_singleton, List.take_of_length_le (by rw [List.length_append]; exact Nat.le_refl _)]
theorem plMs_nil (ws : List Run) : plMs ws [] = [ws] := rfl
theorem plMs_len (ws : List Run) (l : List Str) : (plMs ws l).length = l.length + 1 := by
  unfold plMs
  rw [List.length_map, List.length_range]
theorem plS_len (ws : List Run) (k : Str) (n : Nat) : (plS ws k n).length ≤ ws.length + 1 := by
  cases ws with
  | nil => exact Nat.le_refl _
  | cons r t =>
    show (if r.1 = k then (r :: t) ++ [(k, (n : Int))] else t).length ≤ _
    split
    · rw [List.length_append]
      exact Nat.le_refl _
    · rw [List.length_cons]
      omega
theorem plA_len : ∀ (l : List Str) (ws : List Run) (n : Nat), (plA ws n l).length ≤ ws.length + l.length
  | [], ws, n => Nat.le_refl _
  | k :: t, ws, n => by
    have h1 := plA_len t (plS ws k n) (n + 1)
    have h2 := plS_len ws k n
    show (plA (plS ws k n) (n + 1) t).length ≤ _
    rw [List.length_cons]
    omega
theorem plP_len (ws : List Run) (k : Str) (n : Nat) : (plP ws k n).length ≤ 1 := by
  cases ws with
  | nil => exact Nat.zero_le _
  | cons r t =>
    show (if r.1 = k then [] else [(r.2, (n : Int))]).length ≤ 1
    split <;> simp
theorem psR_len : ∀ (l : List Str) (ws : List Run) (n : Nat), (psR ws n l).length ≤ l.length
  | [], ws, n => Nat.le_refl _
  | k :: t, ws, n => by
    have h1 := psR_len t (plS ws k n) (n + 1)
    have h2 := plP_len ws k n
    show (plP ws k n ++ psR (plS ws k n) (n + 1) t).length ≤ _
    rw [List.length_append, List.length_cons]
    omega
theorem plS_kinds {ws : List Run} {k : Str} {n : Nat} (h : ∀ r ∈ ws, KindOk r.1) (hk : KindOk k) : ∀ r ∈ plS ws k n, KindOk r.1 := by
  intro r hr
  cases ws with
  | nil =>
    rw [List.mem_singleton.mp (show r ∈ [(k, (n : Int))] from hr)]
    exact hk
  | cons x t =>
    have hr : r ∈ (if x.1 = k then (x :: t) ++ [(k, (n : Int))] else t) := hr
    by_cases e : x.1 = k
    · rw [if_pos e] at hr
      rcases List.mem_append.mp hr with z | z
      · exact h r z
      · rw [List.mem_singleton.mp z]
        exact hk
    · rw [if_neg e] at hr
      exact h r (List.mem_cons_of_mem _ hr)
theorem plA_kinds : ∀ {l : List Str} {ws : List Run} {n : Nat}, (∀ r ∈ ws, KindOk r.1) → (∀ k ∈ l, KindOk k) → ∀ r ∈ plA ws n l, KindOk r.1
  | [], _, _, h, _ => h
  | k :: t, ws, n, h, hl => plA_kinds (l := t) (plS_kinds h (hl k (List.mem_cons_self ..))) fun x hx => hl x (List.mem_cons_of_mem _ hx)
def w0R : Option Run → List Run
  | none => []
  | some r => List.replicate r.2.toNat (r.1, -1)
def itR (rs : List Run) : List Str := rs.flatMap fun r => List.replicate r.2.toNat r.1
theorem itR_snoc (l : List Run) (r : Run) : itR (l ++ [r]) = itR l ++ List.replicate r.2.toNat r.1 := by
  unfold itR
  rw [List.flatMap_append]
  simp
def PV (H : Hp) (v : V) (p : Int × Int) : Prop := ∃ t, v = .ref t ∧ H t = some (.tup [.int p.1, .int p.2])
theorem PV.same {H H' : Hp} {v : V} {p : Int × Int} (s : Same H H') (h : PV H v p) : PV H' v p := by
  obtain ⟨t, e, h⟩ := h
  exact ⟨t, e, s _ _ h⟩
theorem PV.grow {H : Hp} {D : Addr} {acc acc' : List V} {v : V} {p : Int × Int} (hD : H D = some (.lst acc)) (h : PV H v p) : PV (upd H D (.lst acc')) v p := by
  obtain ⟨t, e, h⟩ := h
  refine ⟨t, e, ?_⟩
  rw [upd_ne (ne_of h hD (by intro q; cases q))]
  exact h
theorem Runs.grow {H : Hp} {D a : Addr} {acc acc' : List V} {ws : List Run} (hD : H D = some (.lst acc)) (n : a ≠ D) (h : Runs H a ws) : Runs (upd H D (.lst acc')) a ws := by
  obtain ⟨xs, hx, hp⟩ := h
  refine ⟨xs, ?_, prs_grow hD hp⟩
  rw [upd_ne n]
  exact hx
/-- a list of runs apart from two others -/
def WL (H : Hp) (M N : Addr) (v : V) (ws : List Run) : Prop := ∃ a, v = .ref a ∧ a ≠ M ∧ a ≠ N ∧ Runs H a ws
theorem WL.same {H H' : Hp} {M N : Addr} {v : V} {ws : List Run} (s : Same H H') (h : WL H M N v ws) : WL H' M N v ws := by
  obtain ⟨a, e, n1, n2, h⟩ := h
  exact ⟨a, e, n1, n2, h.same s⟩
/-- what the play keeps -/
structure Pl (H0 H : Hp) (W M N : Addr) (ws0 : List Run) (ks ls : List Str) : Prop where
  sm : Same H0 H
  wm : W ≠ M
  wn : W ≠ N
  wr : Runs H W (plA ws0 0 ls)
  ms : ∃ xs, H M = some (.lst xs) ∧ Paired (WL H M N) xs (plMs ws0 ks)
  ps : ∃ ys, H N = some (.lst ys) ∧ Paired (PV H) ys (psR ws0 0 ls)
theorem flat_one {α : Type} (x : α) : ∀ n : Nat, (List.replicate n [x]).flatten = List.replicate n x
  | 0 => rfl
  | n + 1 => by
    rw [List.replicate_succ, List.flatten_cons, flat_one x n]
    rfl
theorem paired_rep {α β : Type} {F : α → β → Prop} {a : α} {b : β} (h : F a b) : ∀ n : Nat, Paired F (List.replicate n a) (List.replicate n b)
  | 0 => .nil
  | n + 1 => .cons h (paired_rep h n)
theorem len_items {rs : List Run} (h : ∀ r ∈ rs, 1 ≤ r.2 ∧ r.2 ≤ 1000) : (itR rs).length ≤ 1000 * rs.length := by
  induction rs with
  | nil => exact Nat.le_refl _
  | cons r t ih =>
    have e : itR (r :: t) = List.replicate r.2.toNat r.1 ++ itR t := rfl
    have h1 := h r (List.mem_cons_self ..)
    have h2 := ih fun x hx => h x (List.mem_cons_of_mem _ hx)
    rw [e, List.length_append, List.length_replicate, List.length_cons]
    omega
end UP

set_option Elab.async false
set_option linter.all false
set_option maxRecDepth 100000
set_option maxHeartbeats 4000000
namespace UP
open PySem PySem.Spec PyProof.Rows L2
section
variable {P : Program} {w : World} {K : PySem.W.Frag} {mg : Str → Option Value} {base : Heap}
end
end UP

set_option Elab.async false
set_option linter.all false
set_option maxRecDepth 100000
set_option maxHeartbeats 4000000
namespace UP
open PySem PySem.Spec PyProof.Rows L2
/-! ### one arrival after the other -/
def stI (ks : List Str) (st : Option Run) : Option Run := ks.foldl (fun s k => stepR s k 1) st
theorem stI_app (l m : List Str) (st : Option Run) : stI (l ++ m) st = stI m (stI l st) := List.foldl_append ..
theorem step_same {r : Run} {k : Str} {c : Int} (h : r.1 = k) : stepR (some r) k c = some (k, r.2 + c) := if_pos h
theorem step_other {r : Run} {k : Str} {c : Int} (h : r.1 ≠ k) : stepR (some r) k c = if 0 < r.2 - c then some (r.1, r.2 - c) else if r.2 - c = 0 then none else some (k, -(r.2 - c)) := if_neg h
theorem step_step {s : Option Run} {k : Str} {c : Int} (h : PosO s) (hc : 1 ≤ c) : stepR (stepR s k 1) k c = stepR s k (1 + c) := by
  cases s with
  | none => exact step_same (r := (k, 1)) rfl
  | some r =>
    have r1 := h r rfl
    by_cases e : r.1 = k
    · rw [step_same e, step_same e, step_same (r := (k, r.2 + 1)) rfl]
      show some (k, r.2 + 1 + c) = _
      rw [Int.add_assoc]
    · rw [step_other e, step_other e]
      by_cases h1 : 0 < r.2 - 1
      · rw [if_pos h1, step_other (r := (r.1, r.2 - 1)) e]
        show (if 0 < r.2 - 1 - c then some (r.1, r.2 - 1 - c) else if r.2 - 1 - c = 0 then none else some (k, -(r.2 - 1 - c))) = _
        rw [show r.2 - 1 - c = r.2 - (1 + c) by omega]
      · have e2 : r.2 - 1 = 0 := by omega
        rw [if_neg h1, if_pos e2, if_neg (by omega), if_neg (by omega)]
        show some (k, c) = _
        rw [show -(r.2 - (1 + c)) = c by omega]
theorem it_step : ∀ (n : Nat) (s : Option Run) (k : Str), PosO s → stI (List.replicate (n + 1) k) s = stepR s k ((n : Int) + 1)
  | 0, s, k, _ => rfl
  | n + 1, s, k, h => by
    show stI (List.replicate (n + 1) k) (stepR s k 1) = _
    rw [it_step n _ k (stepR_pos h (by decide)), step_step h (by omega)]
    congr 1
    omega
theorem st_items : ∀ (rs : List Run) (st : Option Run), PosO st → (∀ r ∈ rs, 1 ≤ r.2) → stR rs st = stI (itR rs) st
  | [], st, _, _ => rfl
  | r :: t, st, h, k => by
    have c1 := k r (List.mem_cons_self ..)
    have e : itR (r :: t) = List.replicate r.2.toNat r.1 ++ itR t := rfl
    obtain ⟨n, hn⟩ : ∃ n : Nat, r.2.toNat = n + 1 := ⟨r.2.toNat - 1, by omega⟩
    rw [e, stI_app, hn, it_step n _ _ h, stR_cons, show ((n : Int) + 1) = r.2 by omega]
    exact st_items t _ (stepR_pos h c1) fun x hx => k x (List.mem_cons_of_mem _ hx)
theorem take_app {α : Type} : ∀ (l m : List α) (n : Nat), (l ++ m).take n = l.take n ++ m.take (n - l.length)
  | [], m, n => by
    rw [List.nil_append, List.take_nil, List.nil_append, List.length_nil, Nat.sub_zero]
  | x :: t, m, 0 => by
    rw [List.take_zero, List.take_zero, Nat.zero_sub, List.take_zero]
    rfl
  | x :: t, m, n + 1 => by
    rw [List.cons_append, List.take_succ_cons, take_app t m n, List.take_succ_cons, List.length_cons, Nat.add_sub_add_right]
    rfl
theorem it_app (l m : List Run) : itR (l ++ m) = itR l ++ itR m := List.flatMap_append ..
theorem cut_items (e : Int) : ∀ (rs : List Run) (b : Int), 0 ≤ b → (∀ r ∈ rs, 1 ≤ r.2) → itR (cutR 0 e b rs) = (itR rs).take (e - b).toNat
  | [], b, _, _ => by
    show ([] : List Str) = ([] : List Str).take _
    rw [List.take_nil]
  | r :: t, b, hb, k => by
    have c1 := k r (List.mem_cons_self ..)
    have ih := cut_items e t (b + r.2) (by omega) fun x hx => k x (List.mem_cons_of_mem _ hx)
    have e1 : cutR 0 e b (r :: t) = pieceR b 0 e r ++ cutR 0 e (b + r.2) t := rfl
    have e2 : itR (r :: t) = List.replicate r.2.toNat r.1 ++ itR t := rfl
    rw [e1, it_app, ih, e2, take_app, List.length_replicate, List.take_replicate, show (e - (b + r.2)).toNat = (e - b).toNat - r.2.toNat by omega]
    congr 1
    have es : sizeR b 0 e r.2 = (if b + r.2 < e then b + r.2 else e) - b := by
      unfold sizeR
      by_cases h0 : b > 0
      · rw [if_pos h0]
      · rw [if_neg h0, show b = 0 by omega]
    by_cases hs : 0 < sizeR b 0 e r.2
    · rw [show pieceR b 0 e r = [(r.1, sizeR b 0 e r.2)] from if_pos hs]
      show List.replicate (sizeR b 0 e r.2).toNat r.1 ++ [] = _
      rw [List.append_nil]
      congr 1
      rw [es] at hs ⊢
      split <;> omega
    · rw [show pieceR b 0 e r = [] from if_neg hs]
      rw [es] at hs
      rw [show min (e - b).toNat r.2.toNat = 0 by split at hs <;> omega]
      rfl
theorem len_it : ∀ (rs : List Run), (∀ r ∈ rs, 1 ≤ r.2) → ((itR rs).length : Int) = lenR rs
  | [], _ => rfl
  | r :: t, k => by
    have c1 := k r (List.mem_cons_self ..)
    have ih := len_it t fun x hx => k x (List.mem_cons_of_mem _ hx)
    have e2 : itR (r :: t) = List.replicate r.2.toNat r.1 ++ itR t := rfl
    rw [e2, List.length_append, List.length_replicate, lenR_cons]
    omega
/-! ### what is told of waiting items -/
def Uni (ws : List Run) : Prop := ∀ x ∈ ws, ∀ y ∈ ws, x.1 = y.1
theorem uni_plS {ws : List Run} {k : Str} {n : Nat} (h : Uni ws) : Uni (plS ws k n) := by
  cases ws with
  | nil =>
    intro x hx y hy
    rw [List.mem_singleton.mp (show x ∈ [(k, (n : Int))] from hx), List.mem_singleton.mp (show y ∈ [(k, (n : Int))] from hy)]
  | cons r t =>
    by_cases e : r.1 = k
    · rw [show plS (r :: t) k n = (r :: t) ++ [(k, (n : Int))] from if_pos e]
      have all : ∀ x ∈ (r :: t) ++ [(k, (n : Int))], x.1 = k := by
        intro x hx
        rcases List.mem_append.mp hx with z | z
        · rw [h x z r (List.mem_cons_self ..)]
          exact e
        · rw [List.mem_singleton.mp z]
      intro x hx y hy
      rw [all x hx, all y hy]
    · rw [show plS (r :: t) k n = t from if_neg e]
      exact fun x hx y hy => h x (List.mem_cons_of_mem _ hx) y (List.mem_cons_of_mem _ hy)
theorem told_plS {ws : List Run} {k : Str} {n : Nat} (h : Uni ws) : toldR (plS ws k n) = stepR (toldR ws) k 1 := by
  cases ws with
  | nil => rfl
  | cons r t =>
    by_cases e : r.1 = k
    · rw [show plS (r :: t) k n = (r :: t) ++ [(k, (n : Int))] from if_pos e]
      show some (r.1, (((r :: t) ++ [(k, (n : Int))]).length : Int)) = stepR (some (r.1, ((r :: t).length : Int))) k 1
      rw [step_same (r := (r.1, ((r :: t).length : Int))) e, List.length_append, e]
      show some (k, (((r :: t).length + 1 : Nat) : Int)) = some (k, ((r :: t).length : Int) + 1)
      rw [Int.natCast_add]
      rfl
    · rw [show plS (r :: t) k n = t from if_neg e]
      show toldR t = stepR (some (r.1, ((r :: t).length : Int))) k 1
      rw [step_other (r := (r.1, ((r :: t).length : Int))) e]
      cases t with
      | nil => rfl
      | cons x u =>
        have ex : x.1 = r.1 := h x (List.mem_cons_of_mem _ (List.mem_cons_self ..)) r (List.mem_cons_self ..)
        show some (x.1, ((x :: u).length : Int)) = if 0 < ((r :: x :: u).length : Int) - 1 then some (r.1, ((r :: x :: u).length : Int) - 1) else _
        rw [List.length_cons, List.length_cons, List.length_cons, if_pos (by omega), ex]
        congr 2
        omega
theorem told_plA : ∀ (l : List Str) (ws : List Run) (n : Nat), Uni ws → toldR (plA ws n l) = stI l (toldR ws)
  | [], _, _, _ => rfl
  | k :: t, ws, n, h => by
    show toldR (plA (plS ws k n) (n + 1) t) = stI t (stepR (toldR ws) k 1)
    rw [told_plA t _ _ (uni_plS h), told_plS h]
theorem uni_w0 (st : Option Run) : Uni (w0R st) := by
  cases st with
  | none => intro x hx; cases hx
  | some r =>
    intro x hx y hy
    rw [List.eq_of_mem_replicate hx, List.eq_of_mem_replicate hy]
theorem told_w0 {st : Option Run} (h : PosO st) : toldR (w0R st) = st := by
  cases st with
  | none => rfl
  | some r =>
    have r1 := h r rfl
    obtain ⟨n, hn⟩ : ∃ n : Nat, r.2.toNat = n + 1 := ⟨r.2.toNat - 1, by omega⟩
    show toldR (List.replicate r.2.toNat (r.1, (-1 : Int))) = some r
    rw [hn, List.replicate_succ]
    show some (r.1, (((r.1, (-1 : Int)) :: List.replicate n (r.1, (-1 : Int))).length : Int)) = some r
    rw [List.length_cons, List.length_replicate, show ((n + 1 : Nat) : Int) = r.2 by omega]
/-! ### all counts multiplied -/
def scO (t : Int) (st : Option Run) : Option Run := st.map fun r => (r.1, r.2 * t)
theorem lt_sc {a b t : Int} (ht : 0 < t) : a * t < b * t ↔ a < b :=
  ⟨fun h => by
    by_cases z : a < b
    · exact z
    · have := Int.mul_le_mul_of_nonneg_right (show b ≤ a by omega) (Int.le_of_lt ht)
      omega, fun h => Int.mul_lt_mul_of_pos_right h ht⟩
theorem size_sc {b s e c t : Int} (ht : 0 < t) : sizeR (b * t) (s * t) (e * t) (c * t) = sizeR b s e c * t := by
  unfold sizeR
  rw [← Int.add_mul, Int.sub_mul]
  congr 1
  · by_cases h : b + c < e
    · rw [if_pos h, if_pos ((lt_sc ht).mpr h)]
    · rw [if_neg h, if_neg fun z => h ((lt_sc ht).mp z)]
  · by_cases h : b > s
    · rw [if_pos h, if_pos ((lt_sc ht).mpr h)]
    · rw [if_neg h, if_neg fun z => h ((lt_sc ht).mp z)]
theorem pos_sc {a t : Int} (ht : 0 < t) : 0 < a * t ↔ 0 < a := by
  have := lt_sc (a := 0) (b := a) ht
  rw [Int.zero_mul] at this
  exact this
theorem piece_sc {b s e t : Int} {r : Run} (ht : 0 < t) : pieceR (b * t) (s * t) (e * t) (r.1, r.2 * t) = scR t (pieceR b s e r) := by
  unfold pieceR
  show (if 0 < sizeR (b * t) (s * t) (e * t) (r.2 * t) then [(r.1, sizeR (b * t) (s * t) (e * t) (r.2 * t))] else []) = _
  rw [size_sc ht]
  by_cases h : 0 < sizeR b s e r.2
  · rw [if_pos h, if_pos ((pos_sc ht).mpr h)]
    rfl
  · rw [if_neg h, if_neg fun z => h ((pos_sc ht).mp z)]
    rfl
theorem cut_sc {s e t : Int} (ht : 0 < t) : ∀ (rs : List Run) (b : Int), cutR (s * t) (e * t) (b * t) (scR t rs) = scR t (cutR s e b rs)
  | [], _ => rfl
  | r :: u, b => by
    have ih := cut_sc (s := s) (e := e) ht u (b + r.2)
    show pieceR (b * t) (s * t) (e * t) (r.1, r.2 * t) ++ cutR (s * t) (e * t) (b * t + r.2 * t) (scR t u) = scR t (pieceR b s e r ++ cutR s e (b + r.2) u)
    rw [← Int.add_mul, ih, piece_sc ht]
    unfold scR
    rw [List.map_append]
theorem step_sc {st : Option Run} {k : Str} {c t : Int} (ht : 0 < t) : stepR (scO t st) k (c * t) = scO t (stepR st k c) := by
  cases st with
  | none => rfl
  | some r =>
    show stepR (some (r.1, r.2 * t)) k (c * t) = _
    by_cases e : r.1 = k
    · rw [step_same (r := (r.1, r.2 * t)) e, step_same e]
      show some (k, r.2 * t + c * t) = some (k, (r.2 + c) * t)
      rw [Int.add_mul]
    · rw [step_other (r := (r.1, r.2 * t)) e, step_other e]
      show (if 0 < r.2 * t - c * t then some (r.1, r.2 * t - c * t) else if r.2 * t - c * t = 0 then none else some (k, -(r.2 * t - c * t))) = _
      rw [← Int.sub_mul]
      by_cases h : 0 < r.2 - c
      · rw [if_pos h, if_pos ((pos_sc ht).mpr h)]
        rfl
      · rw [if_neg h, if_neg fun z => h ((pos_sc ht).mp z)]
        by_cases h2 : r.2 - c = 0
        · rw [if_pos h2, h2, Int.zero_mul, if_pos rfl]
          rfl
        · have h3 : (r.2 - c) * t ≠ 0 := Int.mul_ne_zero h2 (by omega)
          rw [if_neg h2, if_neg h3]
          show some (k, -((r.2 - c) * t)) = some (k, -(r.2 - c) * t)
          rw [Int.neg_mul]
theorem st_sc {t : Int} (ht : 0 < t) : ∀ (rs : List Run) (st : Option Run), stR (scR t rs) (scO t st) = scO t (stR rs st)
  | [], _ => rfl
  | r :: u, st => by
    show stR (scR t u) (stepR (scO t st) r.1 (r.2 * t)) = scO t (stR u (stepR st r.1 r.2))
    rw [step_sc ht, st_sc ht u]
theorem len_sc {t : Int} : ∀ (rs : List Run), lenR (scR t rs) = lenR rs * t
  | [] => by
    show (0 : Int) = 0 * t
    rw [Int.zero_mul]
  | r :: u => by
    show lenR ((r.1, r.2 * t) :: scR t u) = _
    rw [lenR_cons, lenR_cons, len_sc u, Int.add_mul]
/-- the multiplied state at a multiplied moment -/
theorem whole_sc {t : Int} {rs : List Run} {st : Option Run} {p : Nat} (ht : 0 < t) (h : PosO st) (k : ∀ r ∈ rs, 1 ≤ r.2) :
    stR (cutR 0 ((p : Int) * t) 0 (scR t rs)) (scO t st) = scO t (toldR (plA (w0R st) 0 ((itR rs).take p))) := by
  have e := cut_sc (s := 0) (e := (p : Int)) ht rs 0
  rw [Int.zero_mul] at e
  rw [e, st_sc ht, told_plA _ _ _ (uni_w0 st), told_w0 h, st_items _ _ h cutR_pos, cut_items _ _ _ (Int.le_refl _) k, Int.sub_zero, Int.toNat_natCast]
end UP

set_option Elab.async false
set_option linter.all false
set_option maxRecDepth 100000
set_option maxHeartbeats 4000000
namespace UP
open PySem PySem.Spec PyProof.Rows L2
theorem room70 {A : Around} {k : Nat} (hr : Room k A) : A.units + 70 < cLine := by
  have := hr.un
  omega
theorem call_list_ofK {X : Cx} {K : PySem.W.Frag} (h : X.K = K) : CallR X (.type "list") (fun xs H Q => ∃ p ys, xs = [.ref p] ∧ (SqL K H p ys ∨ SqT K H p ys) ∧ ∀ l, H l = none → Q (.ref l) (upd H l (.lst ys))) := by
  subst h
  exact call_list_of
/-! ### data that a repr takes -/
structure Nice (w n : Nat) (d : PyData) : Prop where
  can : d.canLay0 = true
  dep : d.depth ≤ n
  sho : d.showable = true
  lea : d.leavesShort 100 = true
  wei : d.weight ≤ w
theorem Nice.mono {w w' n n' : Nat} {d : PyData} (h : Nice w n d) (h1 : w ≤ w') (h2 : n ≤ n') : Nice w' n' d := ⟨h.can, Nat.le_trans h.dep h2, h.sho, h.lea, Nat.le_trans h.wei h1⟩
theorem Nice.fits {w n : Nat} {d : PyData} (h : Nice w n d) (hw : w ≤ 150000) (hn : n ≤ 64) : d.showable = true ∧ SeqAt.shaped d = true ∧ d.shown.length ≤ sizeLine := by
  refine ⟨h.sho, ?_, ?_⟩
  · unfold SeqAt.shaped
    rw [h.can]
    have := h.dep
    exact decide_eq_true (by omega)
  · have h1 := PyData.shown_le 100 (by decide) d h.lea
    have h2 := h.wei
    have h3 : d.shown.length ≤ 16000000 := by omega
    exact Nat.le_trans h3 (by decide)
theorem nice_none : Nice 0 0 .none := ⟨rfl, Nat.le_refl _, rfl, rfl, Nat.le_refl _⟩
theorem nice_str {s : Str} (h : KindOk s) : Nice 8 0 (.str s) := by
  refine ⟨?_, Nat.le_refl _, rfl, ?_, h.2.1⟩
  · rw [PyData.canLay0]
    exact h.str
  · rw [PyData.leavesShort, List.all_eq_true]
    intro c hc
    have := h.2.2 c hc
    exact decide_eq_true (by omega)
theorem nice_int {i : Int} (h : i.natAbs < 10 ^ 60) : Nice 201 0 (.int i) := by
  have h2 : i.natAbs < 2 ^ 200 := Nat.lt_of_lt_of_le h (by decide)
  have h3 : i.natAbs.log2 < 200 := by
    by_cases z : i.natAbs = 0
    · rw [z]
      decide
    · exact (Nat.log2_lt z).mpr h2
  refine ⟨by rw [PyData.canLay0], Nat.le_refl _, ?_, ?_, ?_⟩
  · rw [PyData.showable]
    exact decide_eq_true (by omega)
  · rw [PyData.leavesShort]
    refine decide_eq_true ?_
    have e := int_text_length_le10 (k := 60) (by decide) h
    show (Str.ofString (toString i)).length ≤ 100
    rw [PySem.ofString_length]
    omega
  · rw [PyData.weight]
    split <;> omega
theorem nice_items {w n : Nat} : ∀ {ds : List PyData}, (∀ d ∈ ds, Nice w n d) → PyData.canLayAll0 ds = true ∧ PyData.depthAll ds ≤ n ∧ PyData.showableAll ds = true ∧ PyData.leavesShortAll 100 ds = true ∧ PyData.weightAll ds ≤ (w + 1) * ds.length
  | [], _ => ⟨rfl, Nat.zero_le _, rfl, rfl, Nat.zero_le _⟩
  | d :: t, h => by
    have h1 := h d (List.mem_cons_self ..)
    obtain ⟨a, b, c, e, f⟩ := nice_items (ds := t) fun x hx => h x (List.mem_cons_of_mem _ hx)
    refine ⟨?_, ?_, ?_, ?_, ?_⟩
    · rw [PyData.canLayAll0, h1.can, a]
      rfl
    · rw [PyData.depthAll]
      exact Nat.max_le.mpr ⟨h1.dep, b⟩
    · rw [PyData.showableAll, h1.sho, c]
      rfl
    · rw [PyData.leavesShortAll, h1.lea, e]
      rfl
    · have h2 := h1.wei
      rw [PyData.weightAll, List.length_cons, Nat.mul_succ]
      omega
theorem nice_list {w n : Nat} {ds : List PyData} (h : ∀ d ∈ ds, Nice w n d) : Nice ((w + 1) * ds.length) (n + 1) (.list ds) := by
  obtain ⟨a, b, c, e, f⟩ := nice_items h
  exact ⟨by rw [PyData.canLay0]; exact a, by rw [PyData.depth]; omega, by rw [PyData.showable]; exact c, by rw [PyData.leavesShort]; exact e, by rw [PyData.weight]; exact f⟩
theorem nice_tup {w n : Nat} {ds : List PyData} (h : ∀ d ∈ ds, Nice w n d) : Nice ((w + 1) * ds.length) (n + 1) (.tuple ds) := by
  obtain ⟨a, b, c, e, f⟩ := nice_items h
  exact ⟨by rw [PyData.canLay0]; exact a, by rw [PyData.depth]; omega, by rw [PyData.showable]; exact c, by rw [PyData.leavesShort]; exact e, by rw [PyData.weight]; exact f⟩
/-- v stands for d at H and at every heap that keeps H -/
def DpS (K : PySem.W.Frag) (H : Hp) (v : V) (d : PyData) : Prop := ∀ H', Same H H' → Dp K H' v d
theorem DpS.same {K : PySem.W.Frag} {H H' : Hp} {v : V} {d : PyData} (s : Same H H') (h : DpS K H v d) : DpS K H' v d := fun H2 s2 => h H2 (s.trans s2)
theorem dps_all {K : PySem.W.Frag} {H : Hp} {F : PyData → Prop} : ∀ {xs : List V}, (∀ x ∈ xs, ∃ d, DpS K H x d ∧ F d) → ∃ ds, (∀ H', Same H H' → DpAll K H' xs ds) ∧ ds.length = xs.length ∧ ∀ d ∈ ds, F d
  | [], _ => ⟨[], fun _ _ => .nil, rfl, fun d h => by cases h⟩
  | x :: t, h => by
    obtain ⟨d, h1, h2⟩ := h x (List.mem_cons_self ..)
    obtain ⟨ds, a, b, c⟩ := dps_all (xs := t) fun y hy => h y (List.mem_cons_of_mem _ hy)
    refine ⟨d :: ds, fun H' s => .cons (h1 H' s) (a H' s), congrArg Nat.succ b, fun z hz => ?_⟩
    rcases List.mem_cons.mp hz with e | e
    · rw [e]
      exact h2
    · exact c z e
theorem dps_seq {K : PySem.W.Frag} {H : Hp} {a : Addr} {xs : List V} {w n : Nat} (hx : Sq2 H a xs) (h : ∀ x ∈ xs, ∃ d, DpS K H x d ∧ Nice w n d) : ∃ d, DpS K H (.ref a) d ∧ Nice ((w + 1) * xs.length) (n + 1) d := by
  obtain ⟨ds, h1, h2, h3⟩ := dps_all h
  rcases hx with z | z
  · exact ⟨.list ds, fun H' s => .lst (.of (s _ _ z)) (h1 H' s), by rw [← h2]; exact nice_list h3⟩
  · exact ⟨.tuple ds, fun H' s => .tup (.of (s _ _ z)) (h1 H' s), by rw [← h2]; exact nice_tup h3⟩
theorem dps_run {K : PySem.W.Frag} {H : Hp} {v : V} {r : Run} (h : RunG H v r) (k : KindOk r.1) (c : r.2.natAbs < 10 ^ 60) : ∃ d, DpS K H v d ∧ Nice 404 1 d := by
  obtain ⟨t, rfl, h⟩ := h
  have := dps_seq (K := K) (w := 201) (n := 0) h fun x hx => by
    rcases List.mem_cons.mp hx with e | e
    · rw [e]
      exact ⟨.str r.1, fun _ _ => .str _, (nice_str k).mono (by decide) (Nat.le_refl _)⟩
    · rw [List.mem_singleton.mp e]
      exact ⟨.int r.2, fun _ _ => .int _, nice_int c⟩
  exact this
theorem dps_runs {K : PySem.W.Frag} {H : Hp} {v : V} {rs : List Run} (h : RunsG H v rs) (k : ∀ r ∈ rs, KindOk r.1 ∧ r.2.natAbs < 10 ^ 60) (l : rs.length ≤ 100) : ∃ d, DpS K H v d ∧ Nice 41000 2 d := by
  obtain ⟨a, xs, rfl, hx, hp⟩ := h
  have lx : xs.length = rs.length := Paired.len hp
  obtain ⟨d, h1, h2⟩ := dps_seq (K := K) (w := 404) (n := 1) hx fun x hx => by
    obtain ⟨i, hi, e⟩ := List.mem_iff_getElem.mp hx
    obtain ⟨r, er, hr⟩ := Paired.at hp (List.getElem?_eq_getElem hi)
    rw [e] at hr
    have := k r (List.mem_of_getElem? er)
    exact dps_run hr this.1 this.2
  exact ⟨d, h1, h2.mono (by rw [lx]; omega) (Nat.le_refl _)⟩
theorem dps_st {K : PySem.W.Frag} {H : Hp} {v : V} {st : Option Run} (h : StG H v st) (k : ∀ r, st = some r → KindOk r.1 ∧ r.2.natAbs < 10 ^ 60) : ∃ d, DpS K H v d ∧ Nice 41000 2 d := by
  cases st with
  | none =>
    cases h
    exact ⟨.none, fun _ _ => .non, nice_none.mono (by decide) (by decide)⟩
  | some r =>
    obtain ⟨d, h1, h2⟩ := dps_run (K := K) h (k r rfl).1 (k r rfl).2
    exact ⟨d, h1, h2.mono (by decide) (by decide)⟩
theorem dps_two {K : PySem.W.Frag} {H : Hp} {a : Addr} {x y : V} (h : H a = some (.lst [x, y])) (hx : ∃ d, DpS K H x d ∧ Nice 41000 2 d) (hy : ∃ d, DpS K H y d ∧ Nice 41000 2 d) : ∃ d, DpS K H (.ref a) d ∧ Nice 82002 3 d := by
  have := dps_seq (K := K) (a := a) (xs := [x, y]) (w := 41000) (n := 2) (.inl h) fun z hz => by
    rcases List.mem_cons.mp hz with e | e
    · rw [e]
      exact hx
    · rw [List.mem_singleton.mp e]
      exact hy
  exact this
/-! ### dressed and undressed -/
def dP (r : Run) : PyData := .list [.str r.1, .int r.2]
def dSq (rs : List Run) : PyData := .list (rs.map dP)
def dSt : Option Run → PyData
  | none => .none
  | some r => dP r
theorem sim_pair {N : Addr → Prop} {H : Hp} {n : Nat} (r : Run) : Paired (Sim N H n) [V.str r.1, V.int r.2] [PyData.str r.1, PyData.int r.2] := .cons (Sim.dsc (.inr (.inr (.inr ⟨_, rfl, rfl⟩)))) (.cons (Sim.dsc (.inr (.inr (.inl ⟨_, rfl, rfl⟩)))) .nil)
theorem sim_run {H : Hp} {sp : Addr} {v : V} {r : Run} {n : Nat} (z : Spr H sp) (h : RunV H v r) : Sim (· ≠ sp) H (n + 1) v (dP r) := by
  obtain ⟨t, rfl, h⟩ := h
  obtain ⟨_, _, _, hs, _⟩ := z
  exact .inr ⟨t, _, _, rfl, ne_of h hs (by intro q; cases q), .inr h, rfl, sim_pair r, Nat.le_of_ble_eq_true rfl⟩
theorem sim_seq {H : Hp} {sp a : Addr} {rs : List Run} (z : Spr H sp) (h : Runs H a rs) (l : rs.length ≤ 1000) : Sim (· ≠ sp) H 2 (.ref a) (dSq rs) := by
  have na := Runs.ne z h
  obtain ⟨xs, hx, hp⟩ := h
  refine .inr ⟨a, xs, _, rfl, na, .inl hx, rfl, ?_, by rw [List.length_map]; exact l⟩
  have gen : ∀ {xs : List V} {rs : List Run}, Paired (RunV H) xs rs → Paired (Sim (· ≠ sp) H 1) xs (rs.map dP) := by
    intro xs rs h
    induction h with
    | nil => exact .nil
    | cons h _ ih => exact .cons (sim_run z h) ih
  exact gen hp
theorem sim_st {H : Hp} {sp : Addr} {v : V} {st : Option Run} (z : Spr H sp) (h : StV H v st) : Sim (· ≠ sp) H 2 v (dSt st) := by
  cases st with
  | none =>
    cases h
    exact .inl (.inl ⟨rfl, rfl⟩)
  | some r => exact sim_run z h
theorem sim_one {N : Addr → Prop} {H : Hp} {n : Nat} {v : V} {r : Run} (h : Sim N H (n + 1) v (dP r)) : RunG H v r := by
  rcases h with h | ⟨a, xs, ds, rfl, _, hx, e, p, _⟩
  · exact (dsc_lst h).elim
  · cases e
    have scal : ∀ {m : Nat} {x : V} {s : Str}, Sim N H m x (.str s) → x = .str s := by
      intro m x s h
      have h : Dsc x (.str s) := by
        cases m with
        | zero => exact h
        | succ m =>
          rcases h with h | ⟨_, _, _, _, _, _, e, _⟩
          · exact h
          · cases e
      rcases h with ⟨_, e⟩ | ⟨_, _, e⟩ | ⟨_, _, e⟩ | ⟨y, e1, e⟩ <;> cases e
      exact e1
    have scai : ∀ {m : Nat} {x : V} {s : Int}, Sim N H m x (.int s) → x = .int s := by
      intro m x s h
      have h : Dsc x (.int s) := by
        cases m with
        | zero => exact h
        | succ m =>
          rcases h with h | ⟨_, _, _, _, _, _, e, _⟩
          · exact h
          · cases e
      rcases h with ⟨_, e⟩ | ⟨_, _, e⟩ | ⟨y, e1, e⟩ | ⟨_, _, e⟩ <;> cases e
      exact e1
    cases p with
    | cons h1 p1 =>
      cases p1 with
      | cons h2 p2 =>
        cases p2
        rw [scal h1, scai h2] at hx
        exact ⟨a, rfl, hx⟩
theorem sim_all {N : Addr → Prop} {H : Hp} : ∀ (rs : List Run) (xs : List V), Paired (Sim N H 1) xs (rs.map dP) → Paired (RunG H) xs rs
  | [], xs, h => by
    cases h
    exact .nil
  | r :: t, xs, h => by
    cases h with
    | cons h1 h2 => exact .cons (sim_one h1) (sim_all t _ h2)
theorem sim_runs {N : Addr → Prop} {H : Hp} {v : V} {rs : List Run} (h : Sim N H 2 v (dSq rs)) : RunsG H v rs := by
  rcases h with h | ⟨a, xs, ds, rfl, _, hx, e, p, _⟩
  · exact (dsc_lst h).elim
  · cases e
    refine ⟨a, xs, rfl, hx, ?_⟩
    exact sim_all rs xs p
theorem sim_stg {N : Addr → Prop} {H : Hp} {v : V} {st : Option Run} (h : Sim N H 2 v (dSt st)) : StG H v st := by
  cases st with
  | none =>
    rcases h with h | ⟨_, _, _, _, _, _, e, _⟩
    · rcases h with ⟨e, _⟩ | ⟨_, _, e⟩ | ⟨_, _, e⟩ | ⟨_, _, e⟩
      · exact e
      all_goals cases e
    · cases e
  | some r => exact sim_one h
/-! ### one by one -/
theorem at_moment {rs : List Run} {st : Option Run} {m : Nat} (h : PosO st) (k : ∀ r ∈ rs, 1 ≤ r.2) : stR (cutR 0 (m : Int) 0 rs) st = toldR (plA (w0R st) 0 ((itR rs).take m)) := by
  rw [told_plA _ _ _ (uni_w0 st), told_w0 h, st_items _ _ h cutR_pos, cut_items _ _ _ (Int.le_refl _) k, Int.sub_zero, Int.toNat_natCast]
theorem at_end {rs : List Run} {st : Option Run} (h : PosO st) (k : ∀ r ∈ rs, 1 ≤ r.2) : stR rs st = toldR (plA (w0R st) 0 (itR rs)) := by
  rw [told_plA _ _ _ (uni_w0 st), told_w0 h, st_items _ _ h k]
theorem plMs_get (ws : List Run) (ks : List Str) {n : Nat} (h : n ≤ ks.length) : (plMs ws ks)[n]? = some (plA ws 0 (ks.take n)) := by
  unfold plMs
  rw [List.getElem?_map, List.getElem?_range (by omega)]
  rfl
def dO : Option Run → PyData
  | none => .none
  | some r => dRun r
theorem dt_st {H : Hp} {v : V} {st : Option Run} {n : Nat} (h : StV H v st) : Dt H (n + 1) v (dO st) := by
  cases st with
  | none =>
    cases h
    exact .inl (.inl ⟨rfl, rfl⟩)
  | some r =>
    obtain ⟨t, rfl, h⟩ := h
    refine .inr (.inr ⟨t, _, _, rfl, h, rfl, .cons ?_ (.cons ?_ .nil), Nat.le_of_ble_eq_true rfl⟩)
    · cases n with
      | zero => exact .inr (.inr (.inr ⟨_, rfl, rfl⟩))
      | succ m => exact .inl (.inr (.inr (.inr ⟨_, rfl, rfl⟩)))
    · cases n with
      | zero => exact .inr (.inr (.inl ⟨_, rfl, rfl⟩))
      | succ m => exact .inl (.inr (.inr (.inl ⟨_, rfl, rfl⟩)))
theorem w0_len {st : Option Run} (h : ∀ r, st = some r → r.2 ≤ 1000) : (w0R st).length ≤ 1000 := by
  cases st with
  | none => exact Nat.zero_le _
  | some r =>
    have := h r rfl
    show (List.replicate r.2.toNat (r.1, (-1 : Int))).length ≤ 1000
    rw [List.length_replicate]
    omega
theorem w0_kinds {st : Option Run} (h : StOk st) : ∀ r ∈ w0R st, KindOk r.1 := by
  cases st with
  | none => intro r h; cases h
  | some x =>
    intro r hr
    rw [List.eq_of_mem_replicate hr]
    exact (h x rfl).1
theorem it_kinds {rs : List Run} (h : ∀ r ∈ rs, KindOk r.1) : ∀ k ∈ itR rs, KindOk k := by
  intro k hk
  obtain ⟨r, h1, h2⟩ := List.mem_flatMap.mp hk
  rw [List.eq_of_mem_replicate h2]
  exact h r h1
end UP

set_option Elab.async false
set_option linter.all false
set_option maxRecDepth 100000
set_option maxHeartbeats 4000000
namespace UP
open PySem PySem.Spec PyProof.Rows L2
theorem paired_snoc {α β : Type} {F : α → β → Prop} : ∀ {xs : List α} (l : List β) (y : β), Paired F xs (l ++ [y]) → ∃ xs0 x, xs = xs0 ++ [x] ∧ Paired F xs0 l ∧ F x y
  | _, [], y, h => by
    cases h with
    | cons h1 h2 =>
      cases h2
      exact ⟨[], _, rfl, .nil, h1⟩
  | _, z :: l, y, h => by
    cases h with
    | cons h1 h2 =>
      obtain ⟨xs0, x, e, h3, h4⟩ := paired_snoc l y h2
      exact ⟨_ :: xs0, x, by rw [e]; rfl, .cons h1 h3, h4⟩
theorem set_last {α : Type} : ∀ (l : List α) (x y : α), (l ++ [x]).set l.length y = l ++ [y]
  | [], _, _ => rfl
  | z :: l, x, y => congrArg (z :: ·) (set_last l x y)
theorem ixN_last {n : Nat} : ixN (n + 1) (-1) = some n := by
  unfold ixN
  simp
  omega
/-! ### one more run -/
def addR (rs : List Run) (r : Run) : List Run := match rs.getLast? with
  | none => [r]
  | some l => if l.1 = r.1 then rs.dropLast ++ [(r.1, l.2 + r.2)] else rs ++ [r]
def joinR (rs cs : List Run) : List Run := cs.foldl addR rs
theorem joinR_snoc (rs cs : List Run) (r : Run) : joinR rs (cs ++ [r]) = addR (joinR rs cs) r := by
  unfold joinR
  rw [List.foldl_append]
  rfl
theorem addR_len (rs : List Run) (r : Run) : (addR rs r).length ≤ rs.length + 1 := by
  unfold addR
  split
  · exact Nat.le_add_left _ _
  · split
    · rw [List.length_append, List.length_dropLast]
      simp only [List.length_cons, List.length_nil]
      omega
    · rw [List.length_append]
      exact Nat.le_refl _
theorem joinR_len : ∀ (cs rs : List Run), (joinR rs cs).length ≤ rs.length + cs.length
  | [], _ => Nat.le_refl _
  | c :: t, rs => by
    have h1 := joinR_len t (addR rs c)
    have h2 := addR_len rs c
    show (joinR (addR rs c) t).length ≤ _
    rw [List.length_cons]
    omega
theorem RunV.butL {H H' : Hp} {p : Addr} {xs : List V} {v : V} {r : Run} (hp : H p = some (.lst xs)) (b : But p H H') (h : RunV H v r) : RunV H' v r := by
  obtain ⟨t, e, h⟩ := h
  exact ⟨t, e, b _ _ (ne_of h hp (by intro q; cases q)) h⟩
section
variable {P : Program} {w : World} {K : PySem.W.Frag} {mg : Str → Option Value} {base : Heap}
end
end UP

set_option Elab.async false
set_option linter.all false
set_option maxRecDepth 100000
set_option maxHeartbeats 4000000
namespace UP
open PySem PySem.Spec PyProof.Rows L2
def runR (ks : List Str) : List Run := ks.foldl (fun rs k => addR rs (k, 1)) []
theorem runR_snoc (ks : List Str) (k : Str) : runR (ks ++ [k]) = addR (runR ks) (k, 1) := by
  unfold runR
  rw [List.foldl_append]
  rfl
theorem runR_len (ks : List Str) : (runR ks).length ≤ ks.length := by
  have gen : ∀ (ks : List Str) (rs : List Run), (ks.foldl (fun rs k => addR rs (k, 1)) rs).length ≤ rs.length + ks.length := by
    intro ks
    induction ks with
    | nil => intro rs; exact Nat.le_refl _
    | cons k t ih =>
      intro rs
      have h1 := ih (addR rs (k, 1))
      have h2 := addR_len rs (k, 1)
      show (t.foldl (fun rs k => addR rs (k, 1)) (addR rs (k, 1))).length ≤ _
      rw [List.length_cons]
      omega
  have := gen ks []
  rw [List.length_nil, Nat.zero_add] at this
  exact this
section
variable {P : Program} {w : World} {K : PySem.W.Frag} {mg : Str → Option Value} {base : Heap}
/-! checked_short_runs: slots 0:sequence 1:runs -/
abbrev s_checked_short_runs : Stmt := topS 20
theorem sc_checked_short_runs : FnScope ["sequence", "runs"] ["sequence"] (defScope s_checked_short_runs) := ⟨rfl, rfl, rfl, by decide +kernel, rfl, by decide +kernel, by decide +kernel⟩
def sp_checked_short_runs : Sp := fun vs H Q _ => ∃ (av : V) (rs : List Run), vs = [av] ∧ RunsG H av rs ∧ SeqOk rs ∧ lenR rs ≤ 400 ∧ ∀ H' p, Same H H' → H p = none → Runs H' p rs → Q (.ref p) H'
theorem ok_checked_short_runs (D : Df K mg "checked_short_runs" s_checked_short_runs) (T : Tx mg) (G_checked_runs : Has P w K mg base 5 "checked_runs" ["sequence"] sp_checked_runs) (G_length_of : Has P w K mg base 1 "length_of" ["runs"] sp_length_of) :
    Has P w K mg base 6 "checked_short_runs" ["sequence"] sp_checked_short_runs := by
  refine has_of D sc_checked_short_runs (fun _ _ _ _ _ _ us hl => match us, hl with | [_], _ => rfl) (fun vs H Q E h => ?_) (fun f cdv A outer s₀ H vs Q E hr h => ?_)
  · obtain ⟨a, R, rfl, _⟩ := h
    rfl
  · obtain ⟨av, rs, rfl, hR, ok, l4, q⟩ := h
    have lr := ok.1
    refine ⟨_, (pss_cons (ps_set (i := 1) sc_checked_short_runs.nd rfl (by first | exact Or.inl rfl | exact Or.inr rfl) (pe_callH G_checked_runs (hr.mono (by omega)) (by rfl) (pa_cons (pv 0) pa_nil)))
    (pss_cons (ps_if (pt_cmpR op_gt (pe_callH G_length_of (hr.mono (by omega)) (by rfl) (pa_cons (pv 1) pa_nil)) (pe_glI T.c_MAX_ITEMS (by rfl)) (nomark _)) (pss_one ps_never) pss_nil)
    (pss_one (ps_ret (pv 1))))), ?_⟩
    refine ⟨_, rfl, av, rs, rfl, hR, ok, fun H1 p1 s1 n1 h1 => ?_⟩
    refine ⟨_, rfl, p1, rs, rfl, h1, by omega, fun H2 s2 => ⟨_, _, rfl, rfl, _, rfl, iteN (decide_eq_false (by omega)) ?_⟩⟩
    exact ⟨_, rfl, q H2 p1 (s1.trans s2) n1 (h1.same s2)⟩
end
end UP

set_option Elab.async false
set_option linter.all false
set_option maxRecDepth 100000
set_option maxHeartbeats 4000000
namespace UP
open PySem PySem.Spec PyProof.Rows L2
theorem Alt.tail {r : Run} {t : List Run} (h : Alt (r :: t)) : Alt t := fun i x y hx hy => h (i + 1) x y hx hy
theorem addR_new {rs : List Run} {r : Run} (h : ∀ l, rs.getLast? = some l → l.1 ≠ r.1) : addR rs r = rs ++ [r] := by
  unfold addR
  cases e : rs.getLast? with
  | none =>
    rw [List.getLast?_eq_none_iff.mp e]
    rfl
  | some l => exact if_neg (h l e)
theorem addR_more (R : List Run) (l r : Run) (h : l.1 = r.1) : addR (R ++ [l]) r = R ++ [(r.1, l.2 + r.2)] := by
  unfold addR
  rw [List.getLast?_concat, List.dropLast_concat]
  exact if_pos h
theorem join_alt : ∀ (cs rs : List Run), Alt cs → (∀ l c, rs.getLast? = some l → cs.head? = some c → l.1 ≠ c.1) → joinR rs cs = rs ++ cs
  | [], rs, _, _ => by
    rw [List.append_nil]
    rfl
  | c :: t, rs, a, h => by
    show joinR (addR rs c) t = rs ++ c :: t
    rw [addR_new fun l hl => h l c hl rfl, join_alt t (rs ++ [c]) a.tail (fun l d hl hd => ?_), List.append_assoc]
    · rfl
    · rw [List.getLast?_concat] at hl
      cases hl
      cases t with
      | nil => cases hd
      | cons e u =>
        cases hd
        exact a 0 _ _ rfl rfl
theorem join_more (R : List Run) (l c : Run) (t : List Run) (a : Alt (c :: t)) (h : l.1 = c.1) : joinR (R ++ [l]) (c :: t) = R ++ [(c.1, l.2 + c.2)] ++ t := by
  show joinR (addR (R ++ [l]) c) t = _
  rw [addR_more R l c h, join_alt t _ a.tail (fun l' d hl hd => ?_)]
  rw [List.getLast?_concat] at hl
  cases hl
  cases t with
  | nil => cases hd
  | cons e u =>
    cases hd
    exact a 0 c _ rfl rfl
/-! ### items and runs -/
theorem run_more : ∀ (n : Nat) (R : List Run) (k : Str) (c : Int), (List.replicate n k).foldl (fun rs k => addR rs (k, 1)) (R ++ [(k, c)]) = R ++ [(k, c + (n : Int))]
  | 0, R, k, c => by
    rw [show c + ((0 : Nat) : Int) = c by omega]
    rfl
  | n + 1, R, k, c => by
    show (List.replicate n k).foldl (fun rs k => addR rs (k, 1)) (addR (R ++ [(k, c)]) (k, 1)) = _
    rw [addR_more R (k, c) (k, 1) rfl, run_more n R k (c + 1), show c + 1 + (n : Int) = c + ((n + 1 : Nat) : Int) by omega]
theorem run_one (n : Nat) (rs : List Run) (k : Str) (h : ∀ l, rs.getLast? = some l → l.1 ≠ k) : (List.replicate (n + 1) k).foldl (fun rs k => addR rs (k, 1)) rs = rs ++ [(k, (n : Int) + 1)] := by
  show (List.replicate n k).foldl (fun rs k => addR rs (k, 1)) (addR rs (k, 1)) = _
  rw [addR_new (r := (k, 1)) h, run_more n rs k 1, show (1 : Int) + (n : Int) = (n : Int) + 1 by omega]
theorem run_items : ∀ (rs R : List Run), Alt rs → (∀ r ∈ rs, 1 ≤ r.2) → (∀ l c, R.getLast? = some l → rs.head? = some c → l.1 ≠ c.1) → (itR rs).foldl (fun rs k => addR rs (k, 1)) R = R ++ rs
  | [], R, _, _, _ => by
    rw [List.append_nil]
    rfl
  | r :: t, R, a, p, h => by
    have c1 := p r (List.mem_cons_self ..)
    obtain ⟨n, hn⟩ : ∃ n : Nat, r.2.toNat = n + 1 := ⟨r.2.toNat - 1, by omega⟩
    have e : itR (r :: t) = List.replicate r.2.toNat r.1 ++ itR t := rfl
    rw [e, List.foldl_append, hn, run_one n R r.1 (fun l hl => h l r hl rfl), show (n : Int) + 1 = r.2 by omega, run_items t (R ++ [(r.1, r.2)]) a.tail (fun x hx => p x (List.mem_cons_of_mem _ hx)) (fun l d hl hd => ?_), List.append_assoc]
    · rfl
    · rw [List.getLast?_concat] at hl
      cases hl
      cases t with
      | nil => cases hd
      | cons e u =>
        cases hd
        exact a 0 _ _ rfl rfl
theorem run_it {rs : List Run} (a : Alt rs) (p : ∀ r ∈ rs, 1 ≤ r.2) : runR (itR rs) = rs := by
  have := run_items rs [] a p (fun l c hl => by cases hl)
  rw [List.nil_append] at this
  exact this
theorem it_one (k : Str) (c : Int) : itR [(k, c)] = List.replicate c.toNat k := by
  show List.replicate c.toNat k ++ [] = _
  rw [List.append_nil]
theorem it_add (rs : List Run) (k : Str) (p : ∀ r ∈ rs, 1 ≤ r.2) : itR (addR rs (k, 1)) = itR rs ++ [k] := by
  rcases List.eq_nil_or_concat rs with e0 | ⟨R0, l, e0⟩
  · subst e0
    rfl
  · rw [List.concat_eq_append] at e0
    subst e0
    have c1 := p l (List.mem_append.mpr (.inr (List.mem_singleton.mpr rfl)))
    by_cases h : l.1 = k
    · rw [addR_more R0 l (k, 1) h, it_app, it_app, List.append_assoc, it_one]
      congr 1
      have e : itR [l] = List.replicate l.2.toNat l.1 := it_one l.1 l.2
      show List.replicate (l.2 + 1).toNat k = itR [l] ++ [k]
      rw [e, h, show (l.2 + 1).toNat = l.2.toNat + 1 by omega, List.replicate_succ']
    · rw [addR_new (fun l' hl => by rw [List.getLast?_concat] at hl; cases hl; exact h), it_app]
      rfl
/-- what holds of the runs of some kinds -/
structure RunsOf (rs : List Run) (ks : List Str) : Prop where
  it : itR rs = ks
  pos : ∀ r ∈ rs, 1 ≤ r.2
  mem : ∀ r ∈ rs, r.1 ∈ ks
  alt : Alt rs
theorem runs_snoc {rs : List Run} {ks : List Str} {k : Str} (h : RunsOf rs ks) : RunsOf (addR rs (k, 1)) (ks ++ [k]) := by
  obtain ⟨i, p, m, a⟩ := h
  refine ⟨by rw [it_add rs k p, i], ?_, ?_, ?_⟩
  all_goals
    rcases List.eq_nil_or_concat rs with e0 | ⟨R0, l, e0⟩
  · subst e0
    intro r hr
    rw [List.mem_singleton.mp (show r ∈ [(k, (1 : Int))] from hr)]
    exact Int.le_refl 1
  · rw [List.concat_eq_append] at e0
    subst e0
    have c1 := p l (List.mem_append.mpr (.inr (List.mem_singleton.mpr rfl)))
    intro r hr
    by_cases h : l.1 = k
    · rw [addR_more R0 l (k, 1) h] at hr
      rcases List.mem_append.mp hr with z | z
      · exact p r (List.mem_append.mpr (.inl z))
      · rw [List.mem_singleton.mp z]
        show 1 ≤ l.2 + 1
        omega
    · rw [addR_new (fun l' hl => by rw [List.getLast?_concat] at hl; cases hl; exact h)] at hr
      rcases List.mem_append.mp hr with z | z
      · exact p r z
      · rw [List.mem_singleton.mp z]
        exact Int.le_refl 1
  · subst e0
    intro r hr
    rw [List.mem_singleton.mp (show r ∈ [(k, (1 : Int))] from hr)]
    exact List.mem_append.mpr (.inr (List.mem_singleton.mpr rfl))
  · rw [List.concat_eq_append] at e0
    subst e0
    intro r hr
    by_cases h : l.1 = k
    · rw [addR_more R0 l (k, 1) h] at hr
      rcases List.mem_append.mp hr with z | z
      · exact List.mem_append.mpr (.inl (m r (List.mem_append.mpr (.inl z))))
      · rw [List.mem_singleton.mp z]
        exact List.mem_append.mpr (.inr (List.mem_singleton.mpr rfl))
    · rw [addR_new (fun l' hl => by rw [List.getLast?_concat] at hl; cases hl; exact h)] at hr
      rcases List.mem_append.mp hr with z | z
      · exact List.mem_append.mpr (.inl (m r z))
      · rw [List.mem_singleton.mp z]
        exact List.mem_append.mpr (.inr (List.mem_singleton.mpr rfl))
  · subst e0
    intro i x y hx hy
    cases hy
  · rw [List.concat_eq_append] at e0
    subst e0
    by_cases h : l.1 = k
    · rw [addR_more R0 l (k, 1) h]
      have e : (R0 ++ [((k, (1 : Int)).1, l.2 + (k, (1 : Int)).2)]).map (·.1) = (R0 ++ [l]).map (·.1) := by
        rw [List.map_append, List.map_append]
        show R0.map (·.1) ++ [k] = R0.map (·.1) ++ [l.1]
        rw [h]
      intro i x y hx hy
      have ex := congrArg (fun z : List Str => z[i]?) e
      have ey := congrArg (fun z : List Str => z[i + 1]?) e
      simp only [List.getElem?_map] at ex ey
      rw [hx] at ex
      rw [hy] at ey
      cases gx : (R0 ++ [l])[i]? with
      | none => rw [gx] at ex; cases ex
      | some x' =>
        cases gy : (R0 ++ [l])[i + 1]? with
        | none => rw [gy] at ey; cases ey
        | some y' =>
          rw [gx] at ex
          rw [gy] at ey
          have ex : x.1 = x'.1 := Option.some.inj ex
          have ey : y.1 = y'.1 := Option.some.inj ey
          rw [ex, ey]
          exact a i x' y' gx gy
    · rw [addR_new (fun l' hl => by rw [List.getLast?_concat] at hl; cases hl; exact h)]
      refine alt_snoc a fun y hy => ?_
      rw [← List.getLast?_eq_getElem?, List.getLast?_concat] at hy
      cases hy
      exact h
theorem runs_of_all : ∀ (ks l : List Str) (R : List Run), RunsOf R l → RunsOf (ks.foldl (fun rs k => addR rs (k, 1)) R) (l ++ ks)
  | [], l, R, h => by
    rw [List.append_nil]
    exact h
  | k :: t, l, R, h => by
    have := runs_of_all t (l ++ [k]) _ (runs_snoc (k := k) h)
    rw [List.append_assoc] at this
    exact this
theorem runs_all (ks : List Str) : RunsOf (runR ks) ks := runs_of_all ks [] [] ⟨rfl, (fun r h => by cases h), (fun r h => by cases h), fun i x y hx => by simp at hx⟩
theorem len_mem {rs : List Run} (p : ∀ r ∈ rs, 1 ≤ r.2) : ∀ r ∈ rs, r.2 ≤ lenR rs := by
  induction rs with
  | nil => intro r h; cases h
  | cons x t ih =>
    intro r hr
    have c1 := p x (List.mem_cons_self ..)
    have ih' := ih fun y hy => p y (List.mem_cons_of_mem _ hy)
    rw [lenR_cons]
    have nn : 0 ≤ lenR t := by
      have := len_it t fun y hy => p y (List.mem_cons_of_mem _ hy)
      omega
    rcases List.mem_cons.mp hr with e | e
    · rw [e]
      omega
    · have := ih' r e
      omega
theorem seq_runs {ks : List Str} (l : ks.length ≤ 400) (ok : ∀ k ∈ ks, KindOk k) : SeqOk (runR ks) ∧ lenR (runR ks) ≤ 400 ∧ itR (runR ks) = ks := by
  obtain ⟨i, p, m, a⟩ := runs_all ks
  have ll := len_it (runR ks) p
  rw [i] at ll
  refine ⟨⟨?_, fun r hr => ⟨ok _ (m r hr), p r hr, ?_⟩, a⟩, by omega, i⟩
  · exact Nat.le_trans (runR_len ks) l
  · have := len_mem p r hr
    omega
end UP

set_option Elab.async false
set_option linter.all false
set_option maxRecDepth 100000
set_option maxHeartbeats 4000000
/-! ### sorted(d.items()), d a dict of texts with ints -/
namespace UPS
open PySem PyProof.Rows SrtO Srt
def lexS (p q : Str × Int) : Bool := if p.1 = q.1 then decide (p.2 < q.2) else decide (p.1.cps.toList < q.1.cps.toList)
theorem lexS_no {p q : Str × Int} : lexS p q = false ↔ (p.1 = q.1 → ¬ p.2 < q.2) ∧ (p.1 ≠ q.1 → ¬ p.1.cps.toList < q.1.cps.toList) := by
  unfold lexS
  by_cases e : p.1 = q.1
  · rw [if_pos e, decide_eq_false_iff_not]
    exact ⟨fun h => ⟨fun _ => h, fun n => absurd e n⟩, fun h => h.1 e⟩
  · rw [if_neg e, decide_eq_false_iff_not]
    exact ⟨fun h => ⟨fun z => absurd z e, fun _ => h⟩, fun h => h.2 e⟩
theorem str_of {x y : Str} (h : x.cps.toList = y.cps.toList) : x = y := by
  cases x with
  | mk a =>
    cases y with
    | mk b =>
      congr 1
      exact Array.ext' h
theorem swoS : Swo lexS := by
  refine ⟨fun x y h => ?_, fun x y z h1 h2 => ?_⟩
  · refine lexS_no.mpr ⟨fun e => ?_, fun n => ?_⟩
    · unfold lexS at h
      rw [if_pos e.symm] at h
      have := of_decide_eq_true h
      omega
    · unfold lexS at h
      rw [if_neg fun z => n z.symm] at h
      exact List.lt_asymm (of_decide_eq_true h)
  · have a := lexS_no.mp h1
    have b := lexS_no.mp h2
    refine lexS_no.mpr ⟨fun e => ?_, fun n => ?_⟩
    · by_cases c : y.1 = x.1
      · have := a.1 c
        have := b.1 (e.trans c.symm)
        omega
      · exfalso
        have p := a.2 c
        have q := b.2 fun w => c (w.symm.trans e)
        rw [e] at q
        exact c (str_of (List.le_antisymm q p))
    · by_cases c : y.1 = x.1
      · rw [← c]
        exact b.2 fun w => n (w.trans c)
      · by_cases d : z.1 = y.1
        · rw [d]
          exact a.2 c
        · exact List.le_trans (a.2 c) (b.2 d)
/-- a tuple of a text and an int -/
def IsSI (h : Heap) (v : Value) (x : Str) (y : Int) : Prop := ∃ a o t u n, v = .ref a ∧ h.get? a = some o ∧ o.cls = .type "tuple" ∧ o.data = .seq #[.str x t, .int y u] n
theorem IsSI.keeps {h h' : Heap} {v : Value} {x : Str} {y : Int} (p : IsSI h v x y) (k : ∀ b o, h.get? b = some o → o.cls = .type "tuple" → h'.get? b = some o) : IsSI h' v x y := by
  obtain ⟨a, o, t, u, n, e, ho, hc, hd⟩ := p
  exact ⟨a, o, t, u, n, e, k _ _ ho hc, hc, hd⟩
theorem firsts_si {h : Heap} : ∀ {vs : List Value}, (∀ v ∈ vs, ∃ x y, IsSI h v x y) → ∃ fs : List Value, PySem.W.KatTups h vs fs ∧ fs.length = vs.length ∧ ∀ f ∈ fs, ∃ x t, f = Value.str x t
  | [], _ => ⟨[], PySem.W.KatTups.nil, rfl, fun f hf => by simp at hf⟩
  | v :: vs, x => by
    obtain ⟨fs, k, hl, hi⟩ := firsts_si (vs := vs) fun u hu => x u (List.mem_cons_of_mem _ hu)
    obtain ⟨y, z, a, o, t, u, n, rfl, ho, hc, hd⟩ := x v (List.mem_cons_self ..)
    refine ⟨.str y t :: fs, PySem.W.KatTups.cons ho hc hd rfl k, congrArg Nat.succ hl, fun f hf => ?_⟩
    rcases List.mem_cons.mp hf with e | e
    · exact ⟨y, t, e⟩
    · exact hi f e
section
variable {prog : Program} {w : World} {A : Around} {s : Shared} {E : Value → Shared → Prop}
theorem si_cmp {vs : List Value} {k : Value → Str × Int} (hp : ∀ v ∈ vs, IsSI s.heap v (k v).1 (k v).2) : Cmp prog w A s (tuples' true) (fun p => p.1 ∈ vs) (lt2 fun v u => lexS (k v) (k u)) := by
  intro p q hm hm'
  have h1 := hp _ hm
  have h2 := hp _ hm'
  show wpAny (model prog w) A (keyLt' (tuples' true) p.1 q.1) (fun r s' => s' = s ∧ r = lexS (k p.1) (k q.1)) (fun _ _ => False) s
  unfold lexS
  generalize (k p.1).1 = x at h1 ⊢
  generalize (k p.1).2 = y at h1 ⊢
  generalize (k q.1).1 = x' at h2 ⊢
  generalize (k q.1).2 = y' at h2 ⊢
  obtain ⟨a, o, t, u, n, e, ho, hc, hd⟩ := h1
  obtain ⟨a', o', t', u', n', e', ho', hc', hd'⟩ := h2
  rw [e, e']
  refine PySem.W.kat_lt ho hd ho' hd' ?_
  show PySem.W.KatLex prog w A true (decide (2 < 2)) _ [(.str x t, .str x' t'), (.int y u, .int y' u')] 0 s
  refine PySem.W.kat_cons (SeqAt.EqAt.str_str x t x' t' prog w _ _ ?_)
  refine PySem.W.kat_go (fun e1 => ?_) (fun e1 => ?_)
  · have ex : x = x' := by simpa using e1
    refine PySem.W.kat_yes (PySem.W.kat_cons (SeqAt.EqAt.int_int y u y' u' prog w _ _ ?_))
    refine PySem.W.kat_go (fun e2 => ?_) (fun e2 => ?_)
    · have ey : y = y' := by simpa using e2
      have e3 : (if x = x' then decide (y < y') else decide (x.cps.toList < x'.cps.toList)) = false := by
        rw [if_pos ex, ey]
        exact decide_eq_false (Int.lt_irrefl _)
      exact PySem.W.kat_yes (PySem.W.kat_nil ⟨rfl, e3.symm⟩)
    · have e3 : (if x = x' then decide (y < y') else decide (x.cps.toList < x'.cps.toList)) = decide (y < y') := if_pos ex
      refine PySem.W.kat_no (PySem.W.kat_one _ _ (PyProof.Rows.lt_int ?_))
      exact (show s = s ∧ decide (y < y') = (if x = x' then decide (y < y') else decide (x.cps.toList < x'.cps.toList)) from ⟨rfl, e3.symm⟩)
  · have ex : ¬ x = x' := by simpa using e1
    have e3 : (if x = x' then decide (y < y') else decide (x.cps.toList < x'.cps.toList)) = decide (x.cps.toList < x'.cps.toList) := if_neg ex
    exact PySem.W.kat_no (PyProof.Rows.oneLt_str ⟨rfl, e3.symm⟩)
theorem si_sortable {a : Addr} {vs : List Value} {k : Value → Str × Int} (h0 : 0 < vs.length) (hp : ∀ v ∈ vs, IsSI s.heap v (k v).1 (k v).2) (ha : ∀ o, s.heap.get? a = some o → o.cls ≠ .type "tuple") : SortableO prog w A s a vs fun v u => lexS (k v) (k u) := by
  intro h' keep
  have hp' : ∀ v ∈ vs, IsSI h' v (k v).1 (k v).2 := fun v hm => (hp v hm).keeps fun b o e c => keep b o (fun z => by subst z; exact ha o e c) e
  obtain ⟨fs, h1, h2, h3⟩ := firsts_si fun v hm => ⟨_, _, hp' v hm⟩
  refine ⟨tuples' true, fun Q E hq => ?_, si_cmp hp'⟩
  refine PySem.W.kat_kind (T := .type "str") h1 (by omega) (fun f hm => ?_) (by rfl) ?_
  · obtain ⟨x, t, rfl⟩ := h3 f hm
    exact PySem.W.Looks.now
  · have e : (Value.type "str" != Value.type "tuple") = true := by first | decide +kernel | rfl | decide
    rw [e]
    exact hq
end
end UPS
namespace UP
open PySem PySem.Spec PyProof.Rows L2 L2.DX
abbrev entK (e : Str × Int) : L2.Key × V := (Sum.inr e.1, V.int e.2)
def rItemsK : V → List V → Hp → VK → Prop := fun x xs H Q => ∃ (a : Addr) (kvs : List (L2.Key × V)), x = .ref a ∧ xs = [] ∧ H a = some (.dK kvs) ∧ ∀ p, H p = none → Q (.ref p) (upd H p (itemsO p a))
def rSortKI : List V → Hp → VK → Prop := fun vs H Q => ∃ (p a : Addr) (ks : List Run), vs = [.ref p] ∧ H p = some (itemsO p a) ∧ H a = some (.dK (ks.map entK)) ∧
  ∀ H' l out, Same H H' → H l = none → Runs H' l out → out.Perm ks → out.Pairwise (fun x y => UPS.lexS y x = false) → Q (.ref l) H'
section
variable {X : Cx}
theorem mt_itemsK : MtR X "dict.items" rItemsK := by
  intro pins s σ H x xs v us Q I rx rxs h
  obtain ⟨a, kvs, rfl, rfl, ha, q⟩ := h
  cases rx
  cases rxs
  obtain ⟨z, hd, vs, rel, dd⟩ := dk_of I.hok ha
  obtain ⟨es, ep, hr, _⟩ := dd.raw
  refine DT.callItems (es := es) (ep := ep) hd hr ?_
  have hf : H s.heap.objs.size = none := I.hok.fresh (Nat.le_refl _)
  exact ⟨.ref s.heap.objs.size, upd H s.heap.objs.size (itemsO s.heap.objs.size a), I.laid (t' := s.toks) (fun b u e => Heap.get?_push_of_some _ e) (Nat.le_refl _) (itemsO_ok (Heap.get?_push_size _ rfl)), rfl, q _ hf⟩
theorem kV_str {k : Str} {P : Program} {w : World} {u : Value} (h : (mixKind P w).is (Sum.inr k) u = true) : ∃ t, u = .str k t := Value.isStrOf_shape h
theorem paired_of {α β : Type} {F : α → β → Prop} : ∀ (l : List α) (f : α → β), (∀ a ∈ l, F a (f a)) → Paired F l (l.map f)
  | [], _, _ => .nil
  | a :: t, f, h => .cons (h a (List.mem_cons_self ..)) (paired_of t f fun b hb => h b (List.mem_cons_of_mem _ hb))
theorem paired_map {α α' β β' : Type} {F : α' → β' → Prop} (f : α → α') (g : β → β') : ∀ {l : List α} {m : List β}, Paired (fun a b => F (f a) (g b)) l m → Paired F (l.map f) (m.map g)
  | _, _, .nil => .nil
  | _, _, .cons h t => .cons h (paired_map f g t)
theorem cr_sortedKI (hc : X.calm = true) : CallR X (.builtin "sorted") rSortKI := by
  intro pins s σ H xs us Q I r h
  obtain ⟨p, a, ks, rfl, hp, ha, q⟩ := h
  obtain rfl := Vals.ref1 r
  have view : s.heap.IsItemsView p a := (show ObjOk X.prog X.w H s.heap p (itemsO p a) from I.hok p _ hp).1
  obtain ⟨z, hd, vs, rel, dd⟩ := dk_of I.hok ha
  obtain ⟨es, ep, hr, hsz, hget⟩ := dd.raw
  have l1 : (ks.map entK).length = vs.length := rel.length
  rw [List.length_map] at l1 z
  have hh : X.A.handled = none := I.ok.hd hc
  refine DT.sortedI (es := es) (ep := ep) hh view hr (by omega) fun h' tk as hk hlt hl hG => ?_
  have lak : as.length = ks.length := by omega
  have nd : as.Nodup := List.Pairwise.imp (fun h => Nat.ne_of_lt h) hG.rise
  -- the pairs that were made
  have pr : ∀ (j : Nat) (b : Addr), as[j]? = some b → ∃ (e : Run) (t u : Tok), ks[j]? = some e ∧ h'.get? b = some { cls := .type "tuple", data := .seq #[Value.str e.1 t, Value.int e.2 u] } := by
    intro j b hj
    obtain ⟨en, he, hg⟩ := hG.pairs j b hj
    have hjs : j < es.size := (Array.getElem?_eq_some_iff.mp he).1
    have hjk : j < ks.length := by omega
    have een : es[j] = en := (Array.getElem?_eq_some_iff.mp he).2
    have hjv : j < vs.length := by omega
    obtain ⟨y, ey, r1, r2⟩ := pget rel (List.getElem?_eq_getElem hjv)
    rw [List.getElem?_map, List.getElem?_eq_getElem hjk] at ey
    have ey : entK ks[j] = y := Option.some.inj ey
    have hv : vs[j]? = some ((Sum.inr (ks[j]).1 : L2.Key), (vs[j]).2) := by
      rw [List.getElem?_eq_getElem hjv]
      congr 1
      refine Prod.ext ?_ rfl
      rw [← r1, ← ey]
    obtain ⟨g1, g2⟩ := hget j hjs _ _ hv
    obtain ⟨t, et⟩ := kV_str g1
    rw [← ey] at r2
    obtain ⟨u, eu⟩ := (show ∃ u, (vs[j]).2 = Value.int (ks[j]).2 u from r2)
    refine ⟨ks[j], t, u, List.getElem?_eq_getElem hjk, ?_⟩
    rw [hg, ← een, et, g2, eu]
  have hob : (h'.push { cls := .type "list", data := .seq (as.map Value.ref).toArray }).get? h'.objs.size = some (seqObj "list" (as.map Value.ref).toArray 0) := Heap.get?_push_size _ rfl
  have kb : ∀ b o, s.heap.get? b = some o → (h'.push { cls := .type "list", data := .seq (as.map Value.ref).toArray }).get? b = some o := fun b o e => Heap.get?_push_of_some _ (hk b o e)
  have ne0 : ∀ b o, h'.get? b = some o → b ≠ h'.objs.size := fun b o e => Nat.ne_of_lt (Heap.lt_size e)
  generalize hh2 : h'.push { cls := .type "list", data := .seq (as.map Value.ref).toArray } = h2 at hob kb ⊢
  have ka : ∀ b o, h'.get? b = some o → h2.get? b = some o := fun b o e => by rw [← hh2]; exact Heap.get?_push_of_some _ e
  -- what stands for what
  obtain ⟨kf, hkf⟩ : ∃ kf : Value → Str × Int, ∀ (j : Nat) (b : Addr), as[j]? = some b → ks[j]? = some (kf (.ref b)) := by
    refine ⟨fun v => match v with | .ref b => (ks[as.idxOf b]?).getD ("", 0) | _ => ("", 0), fun j b hj => ?_⟩
    obtain ⟨hjl, ej⟩ := List.getElem?_eq_some_iff.mp hj
    have ei : as.idxOf b = j := by
      rw [← ej]
      exact List.Nodup.idxOf_getElem nd j hjl
    show ks[j]? = some ((ks[as.idxOf b]?).getD ("", 0))
    rw [ei, List.getElem?_eq_getElem (by omega)]
    rfl
  have pin : ∀ v ∈ as.map Value.ref, UPS.IsSI h2 v (kf v).1 (kf v).2 := by
    intro v hv'
    obtain ⟨b, hb, rfl⟩ := List.mem_map.mp hv'
    obtain ⟨j, hj⟩ := List.mem_iff_getElem?.mp hb
    obtain ⟨e, t, u, he, hg⟩ := pr j b hj
    have ek := hkf j b hj
    rw [he] at ek
    have ek := Option.some.inj ek
    rw [← ek]
    exact ⟨b, _, t, u, 0, rfl, ka _ _ hg, rfl, rfl⟩
  refine wpAny_call_entry PyProof.Rows.slot_list_sort ⟨_, hob, rfl⟩ PyProof.Rows.entry_list_sort
    (SrtO.list_sort_ord (s := { s with heap := h2, toks := tk }) (ltv := fun v u => UPS.lexS (kf v) (kf u)) ⟨fun x y => UPS.swoS.asym _ _, fun x y z => UPS.swoS.tr _ _ _⟩ hob (by rw [List.length_map]; omega) (fun h2' => ?_) fun out hs hb => ⟨_, rfl, ?_⟩) (PyProof.Rows.args_list_sort _)
  · refine UPS.si_sortable (s := { s with heap := h2, toks := tk }) (by omega) pin fun o e => ?_
    have e' : some o = some (seqObj "list" (as.map Value.ref).toArray 0) := e.symm.trans hob
    cases e'
    intro c
    exact absurd (Value.type.inj c) (by decide)
  · show EP X pins σ Q (.ref h'.objs.size) { s with heap := sortedHeap h2 h'.objs.size (as.map Value.ref) out.toArray, toks := tk }
    obtain ⟨zs, pz, ez⟩ : ∃ zs : List Addr, zs.Perm as ∧ zs.map Value.ref = out := by
      have := hb.perm
      obtain ⟨zs, p1, p2⟩ := perm_lift Value.ref this as rfl
      exact ⟨zs, p1, p2⟩
    have kF : ∀ b o, b ≠ h'.objs.size → h2.get? b = some o → (sortedHeap h2 h'.objs.size (as.map Value.ref) out.toArray).get? b = some o := fun b o hb e => (PyProof.Rows.sortedHeap_old hb (Heap.lt_size e)).trans e
    have kS : ∀ b o, s.heap.get? b = some o → (sortedHeap h2 h'.objs.size (as.map Value.ref) out.toArray).get? b = some o := fun b o e => kF b o (ne0 _ _ (hk b o e)) (kb b o e)
    obtain ⟨eF, heF⟩ := PyProof.Rows.sortedHeap_at (vs := as.map Value.ref) (out := out.toArray) hob
    have I1 : Inv X pins σ H { s with heap := sortedHeap h2 h'.objs.size (as.map Value.ref) out.toArray, toks := tk } := I.kept (t' := tk) kS
    have hn0 : H h'.objs.size = none := I.hok.fresh (Nat.le_of_lt hlt)
    have lz : zs.length = ks.length := by rw [pz.length_eq, lak]
    have I2 : Inv X pins σ (upd H h'.objs.size (.lst (zs.map V.ref))) { s with heap := sortedHeap h2 h'.objs.size (as.map Value.ref) out.toArray, toks := tk } :=
      I1.take (h' := sortedHeap h2 h'.objs.size (as.map Value.ref) out.toArray) (t' := tk) (fun b ob _ e => e) (I.fpOk (Nat.le_of_lt hlt) hn0) ⟨by rw [List.length_map, lz]; exact z, out, eF, by rw [← ez]; exact vals_maps (fun z : Addr => V.ref z) (fun z => Value.ref z) zs fun _ _ => rfl, heF⟩
    obtain ⟨H2, I3, g, qt⟩ := takeT (P := fun b vs => vs = [.str (kf (.ref b)).1, .int (kf (.ref b)).2]) I as _ I2 nd fun b hb => by
      obtain ⟨j, hj⟩ := List.mem_iff_getElem?.mp hb
      obtain ⟨e, t, u, he, hg⟩ := pr j b hj
      have ek := hkf j b hj
      rw [he] at ek
      have ek := Option.some.inj ek
      have hbl : s.heap.objs.size ≤ b := Nat.le_of_lt (hG.above b hb)
      refine ⟨hbl, ?_, [.str e.1, .int e.2], by rw [← ek], fun H3 => ⟨(by rw [sizeLine_eq]; show 2 ≤ 16777216; omega), [Value.str e.1 t, Value.int e.2 u], .cons ⟨t, rfl⟩ (.cons ⟨u, rfl⟩ .nil), ⟨_, kF _ _ (ne0 _ _ hg) (ka _ _ hg), rfl, 0, rfl⟩⟩⟩
      rw [upd_ne (ne0 _ _ hg)]
      exact I.hok.fresh hbl
    have gr : Same H H2 := fun b o e => g b o (by rw [upd_ne (ne_of_none e hn0)]; exact e)
    refine ⟨.ref h'.objs.size, H2, I3, rfl, q H2 h'.objs.size (zs.map fun b => kf (.ref b)) gr hn0 ⟨zs.map V.ref, g _ _ upd_same, ?_⟩ ?_ ?_⟩
    · refine paired_map V.ref (fun b => kf (.ref b)) ?_
      have := paired_of (F := fun (b : Addr) (c : Addr) => RunV H2 (V.ref b) (kf (.ref c))) zs id fun b hb => by
        obtain ⟨vs', e1, e2⟩ := qt b (pz.mem_iff.mp hb)
        rw [e1] at e2
        exact ⟨b, rfl, e2⟩
      rw [List.map_id] at this
      exact this
    · have e1 : (as.map fun b => kf (.ref b)) = ks := by
        refine List.ext_getElem? fun j => ?_
        rw [List.getElem?_map]
        cases hj : as[j]? with
        | none =>
          have : as.length ≤ j := List.getElem?_eq_none_iff.mp hj
          rw [List.getElem?_eq_none_iff.mpr (by omega)]
          rfl
        | some b =>
          rw [hkf j b hj]
          rfl
      rw [← e1]
      exact pz.map _
    · have hs : out.Pairwise (fun v u => UPS.lexS (kf u) (kf v) = false) := hs
      rw [← ez, List.pairwise_map] at hs
      rw [List.pairwise_map]
      exact hs
/-! ### sorted(list of runs) -/
def kyR (H : Hp) : V → Run
  | .ref t => match H t with
    | some (.tup [.str a, .int b]) => (a, b)
    | _ => ("", 0)
  | _ => ("", 0)
theorem kyR_of {H : Hp} {v : V} {r : Run} (h : RunV H v r) : kyR H v = r := by
  obtain ⟨t, rfl, ht⟩ := h
  show (match H t with | some (.tup [.str a, .int b]) => (a, b) | _ => (("" : Str), (0 : Int))) = r
  rw [ht]
def rSortR : List V → Hp → VK → Prop := fun vs H Q => ∃ (a : Addr) (ks : List Run), vs = [.ref a] ∧ Runs H a ks ∧
  ∀ H' l out, Same H H' → H l = none → Runs H' l out → out.Perm ks → out.Pairwise (fun x y => UPS.lexS y x = false) → Q (.ref l) H'
theorem kyR_map {H : Hp} : ∀ {xs : List V} {ks : List Run}, Paired (RunV H) xs ks → xs.map (kyR H) = ks
  | _, _, .nil => rfl
  | _, _, .cons h t => by rw [List.map_cons, kyR_of h, kyR_map t]
theorem paired_ky {H : Hp} : ∀ (xs : List V), (∀ x ∈ xs, ∃ r, RunV H x r) → Paired (RunV H) xs (xs.map (kyR H))
  | [], _ => .nil
  | x :: t, h => by
    obtain ⟨r, hr⟩ := h x (List.mem_cons_self ..)
    refine .cons ?_ (paired_ky t fun y hy => h y (List.mem_cons_of_mem _ hy))
    rw [kyR_of hr]
    exact hr
theorem paired_mem {α β : Type} {F : α → β → Prop} : ∀ {xs : List α} {ys : List β}, Paired F xs ys → ∀ x ∈ xs, ∃ y, F x y
  | _, _, .cons h t, x, hx => by
    rcases List.mem_cons.mp hx with e | hx
    · rw [e]
      exact ⟨_, h⟩
    · exact paired_mem t x hx
theorem cr_sortedR : CallR X (.builtin "sorted") rSortR := by
  intro pins s σ H vs us Q I r h
  obtain ⟨a, ks, rfl, ⟨xs, hx, hp⟩, q⟩ := h
  obtain ⟨its, rv, hl, hz⟩ := I.list (SqL.of hx)
  obtain rfl := Vals.ref1 r
  obtain ⟨e1, e2⟩ := refs_back rv fun x m => by
    obtain ⟨y, t, e, _⟩ := paired_mem hp x m
    exact ⟨t, e⟩
  refine SrtO.sorted_ord (ltv := fun v u => UPS.lexS (kyR H (backV v)) (kyR H (backV u))) ⟨fun x y => UPS.swoS.asym _ _, fun x y z => UPS.swoS.tr _ _ _⟩ hl.isList (by rw [← rv.length]; exact hz) (fun h2 h₁ a' ha kk => ?_) fun out hs hb => ?_
  · refine UPS.si_sortable (s := { s with heap := h₁ }) (k := fun u => kyR H (backV u)) (by omega) (fun v hv => ?_) fun o e => ?_
    · obtain ⟨t, rfl⟩ := e2 v hv
      have hm : V.ref t ∈ xs := by rw [e1]; exact List.mem_map.mpr ⟨_, hv, rfl⟩
      obtain ⟨y, hy⟩ := paired_mem hp _ hm
      rw [show kyR H (backV (.ref t)) = y from kyR_of hy]
      obtain ⟨t', e, ht⟩ := hy
      cases e
      obtain ⟨_, its2, r2, o, ho, hc, n, hd⟩ := I.hok _ _ ht
      obtain ⟨u1, u2, rfl, ri, rj⟩ := vals2 r2
      obtain ⟨t1, rfl⟩ := ri
      obtain ⟨t2, rfl⟩ := rj
      exact ⟨t, o, t1, t2, n, rfl, (kk _ _ ho).2, hc, hd⟩
    · have e' : some o = some (seqObj "list" its.toArray 0) := e.symm.trans ha
      cases e'
      intro c
      exact absurd (Value.type.inj c) (by decide)
  · have h3 : ∀ u ∈ out, ∃ a, u = Value.ref a := fun u hu => e2 u (hb.perm.mem_iff.mp hu)
    obtain ⟨n, hn⟩ := sortedAll_at s.heap its out.toArray
    have pm : (out.map backV).Perm xs := by
      rw [e1]
      exact hb.perm.map backV
    have hd : s.heap.objs.size ≤ s.heap.objs.size + 1 := Nat.le_succ _
    have hn0 := I.hok.fresh hd
    refine ⟨.ref _, upd H (s.heap.objs.size + 1) (.lst (out.map backV)), I.laid (t' := s.toks) (fun b o e => sortedAll_old e) hd ⟨?_, out, n, vals_back h3, hn⟩, rfl, q _ _ ((out.map backV).map (kyR H)) (same_upd hn0) hn0 ⟨_, upd_same, ?_⟩ ?_ ?_⟩
    · rw [pm.length_eq]
      exact hz
    · exact Paired.imp (fun _ _ => RunV.same (same_upd hn0)) (paired_ky _ fun x hx => paired_mem hp x (pm.mem_iff.mp hx))
    · rw [← kyR_map hp]
      exact pm.map _
    · rw [List.pairwise_map, List.pairwise_map]
      exact hs
end
end UP

set_option Elab.async false
set_option linter.all false
set_option maxRecDepth 100000
set_option maxHeartbeats 4000000
namespace UP
open PySem PySem.Spec PyProof.Rows L2 L2.DX
/-! ### kinds counted -/
structure CT (ks : List Run) (its : List Str) : Prop where
  nd : (ks.map (·.1)).Nodup
  val : ∀ e ∈ ks, e.2 = ((its.count e.1 : Nat) : Int)
  cov : ∀ k, k ∈ its ↔ k ∈ ks.map (·.1)
  sum : (ks.map (·.2)).sum = (its.length : Int)
theorem CT.nil : CT [] [] := ⟨List.nodup_nil, (fun e h => by cases h), (fun k => Iff.rfl), rfl⟩
theorem sum_perm {l m : List Run} (h : l.Perm m) : (l.map (·.2)).sum = (m.map (·.2)).sum := by
  induction h with
  | nil => rfl
  | cons x _ ih => rw [List.map_cons, List.map_cons, List.sum_cons, List.sum_cons, ih]
  | swap x y l =>
    simp only [List.map_cons, List.sum_cons]
    omega
  | trans _ _ h1 h2 => exact h1.trans h2
theorem CT.perm {l m : List Run} {its : List Str} (h : l.Perm m) (c : CT m its) : CT l its :=
  ⟨(h.map _).symm.nodup c.nd, fun e he => c.val e (h.mem_iff.mp he), fun k => (c.cov k).trans (h.map _).mem_iff.symm, (sum_perm h).trans c.sum⟩
theorem val_ent {ks : List Run} {k : Str} : valV (ks.map entK) (Sum.inr k) = (ks.find? fun e => decide (e.1 = k)).map fun e => V.int e.2 := by
  induction ks with
  | nil => rfl
  | cons e t ih =>
    rw [List.map_cons]
    by_cases c : e.1 = k
    · have e1 : List.find? (fun e : Run => decide (e.1 = k)) (e :: t) = some e := by
        rw [List.find?_cons, show (decide (e.1 = k)) = true from decide_eq_true c]
      rw [valV_pos (p := entK e) (by show (Sum.inr e.1 : L2.Key) = _; rw [c]), e1]
      rfl
    · have e1 : List.find? (fun e : Run => decide (e.1 = k)) (e :: t) = List.find? (fun e : Run => decide (e.1 = k)) t := by
        rw [List.find?_cons, show (decide (e.1 = k)) = false from decide_eq_false c]
      rw [valV_neg (p := entK e) (fun z => c (Sum.inr.inj z)), e1]
      exact ih
/-- what a dict of counts says of a kind -/
theorem CT.get {ks : List Run} {its : List Str} (c : CT ks its) (k : Str) : (valV (ks.map entK) (Sum.inr k)).getD (.int 0) = .int ((its.count k : Nat) : Int) := by
  rw [val_ent]
  cases h : ks.find? fun e => decide (e.1 = k) with
  | none =>
    have no : k ∉ its := fun hk => by
      obtain ⟨e, he, ek⟩ := List.mem_map.mp ((c.cov k).mp hk)
      have := List.find?_eq_none.mp h e he
      exact this (decide_eq_true ek)
    rw [List.count_eq_zero_of_not_mem no]
    rfl
  | some e =>
    have e0 := List.find?_some (p := fun e : Run => decide (e.1 = k)) h
    have e1 : e.1 = k := of_decide_eq_true e0
    have e2 := c.val e (List.mem_of_find?_eq_some h)
    rw [e1] at e2
    show V.int e.2 = _
    rw [e2]
theorem key_map {ks : List Run} {k : Str} {n : Int} : (ks.map entK).map (fun kv => if kv.1 = (Sum.inr k : L2.Key) then (kv.1, V.int n) else kv) = (ks.map fun e => if e.1 = k then (e.1, n) else e).map entK := by
  rw [List.map_map, List.map_map]
  refine List.map_congr_left fun e _ => ?_
  show (if (Sum.inr e.1 : L2.Key) = Sum.inr k then _ else _) = entK (if e.1 = k then (e.1, n) else e)
  by_cases c : e.1 = k
  · rw [if_pos (by rw [c]), if_pos c]
  · rw [if_neg (fun z => c (Sum.inr.inj z)), if_neg c]
theorem sum_set {ks : List Run} {k : Str} {n : Int} {e0 : Run} (nd : (ks.map (·.1)).Nodup) (h : e0 ∈ ks) (e : e0.1 = k) : ((ks.map fun e => if e.1 = k then (e.1, n) else e).map (·.2)).sum = (ks.map (·.2)).sum - e0.2 + n := by
  induction ks with
  | nil => cases h
  | cons x t ih =>
    have nd := List.nodup_cons.mp (show (x.1 :: t.map (·.1)).Nodup from nd)
    simp only [List.map_cons, List.sum_cons]
    by_cases c : x.1 = k
    · have ex : x = e0 := by
        rcases List.mem_cons.mp h with z | z
        · exact z.symm
        · exact absurd (List.mem_map.mpr ⟨e0, z, by rw [e, c]⟩) nd.1
      have keep : (t.map fun e => if e.1 = k then (e.1, n) else e) = t := by
        refine (List.map_congr_left fun y hy => ?_).trans (List.map_id _)
        have : ¬ y.1 = k := fun z => nd.1 (List.mem_map.mpr ⟨y, hy, by rw [z, c]⟩)
        rw [if_neg this]
        rfl
      have e9 : (t.map fun e => if e.1 = k then (e.1, n) else e).map (·.2) = t.map (·.2) := by rw [keep]
      rw [if_pos c, ex]
      show n + ((t.map fun e => if e.1 = k then (e.1, n) else e).map (·.2)).sum = e0.2 + (t.map (·.2)).sum - e0.2 + n
      rw [e9]
      omega
    · have h' : e0 ∈ t := by
        rcases List.mem_cons.mp h with z | z
        · rw [z] at e
          exact absurd e c
        · exact z
      have := ih nd.2 h'
      rw [if_neg c, this]
      omega
theorem CT.put {ks : List Run} {its : List Str} (c : CT ks its) (k : Str) (n : Nat) (hn : 1 ≤ n) : ∃ ks', putK (ks.map entK) (Sum.inr k) (.int (((its.count k : Nat) : Int) + (n : Int))) = ks'.map entK ∧ CT ks' (its ++ List.replicate n k) ∧ ks'.length ≤ ks.length + 1 := by
  have cnt : ∀ j : Str, (its ++ List.replicate n k).count j = its.count j + if j = k then n else 0 := by
    intro j
    rw [List.count_append, List.count_replicate]
    congr 1
    by_cases e : j = k
    · rw [if_pos e, if_pos (by rw [e]; exact beq_self_eq_true k)]
    · rw [if_neg e, if_neg (fun z => e (eq_of_beq z).symm)]
  have mem : ∀ j : Str, j ∈ its ++ List.replicate n k ↔ j ∈ its ∨ j = k := by
    intro j
    rw [List.mem_append, List.mem_replicate]
    exact ⟨fun h => h.elim .inl fun z => .inr z.2, fun h => h.elim .inl fun z => .inr ⟨by omega, z⟩⟩
  by_cases hk : k ∈ its
  · have hk' := (c.cov k).mp hk
    obtain ⟨e0, he0, ek⟩ := List.mem_map.mp hk'
    have any : ((ks.map entK).any fun kv => decide (kv.1 = (Sum.inr k : L2.Key))) = true := by
      rw [List.any_eq_true]
      exact ⟨entK e0, List.mem_map.mpr ⟨e0, he0, rfl⟩, decide_eq_true (by show (Sum.inr e0.1 : L2.Key) = _; rw [ek])⟩
    have keys : (ks.map fun e => if e.1 = k then (e.1, ((its.count k : Nat) : Int) + (n : Int)) else e).map (·.1) = ks.map (·.1) := by
      rw [List.map_map]
      refine List.map_congr_left fun e _ => ?_
      show (if e.1 = k then (e.1, ((its.count k : Nat) : Int) + (n : Int)) else e).1 = e.1
      split <;> rfl
    refine ⟨ks.map fun e => if e.1 = k then (e.1, ((its.count k : Nat) : Int) + (n : Int)) else e, ?_, ⟨by rw [keys]; exact c.nd, fun e he => ?_, fun j => ?_, ?_⟩, by rw [List.length_map]; omega⟩
    · unfold putK
      rw [if_pos any, key_map]
    · obtain ⟨x, hx, ex⟩ := List.mem_map.mp he
      rw [← ex, cnt]
      by_cases d : x.1 = k
      · rw [if_pos d]
        show ((its.count k : Nat) : Int) + (n : Int) = ((its.count x.1 + if x.1 = k then n else 0 : Nat) : Int)
        rw [if_pos d, d]
        omega
      · rw [if_neg d, if_neg d]
        exact c.val x hx
    · rw [keys, mem, c.cov j]
      exact ⟨fun h => h.elim id fun z => by rw [z]; exact hk', .inl⟩
    · rw [sum_set c.nd he0 ek, c.sum, c.val e0 he0, ek, List.length_append, List.length_replicate]
      omega
  · have hk' : k ∉ ks.map (·.1) := fun z => hk ((c.cov k).mpr z)
    have any : ¬ ((ks.map entK).any fun kv => decide (kv.1 = (Sum.inr k : L2.Key))) = true := by
      rw [List.any_eq_true]
      rintro ⟨kv, h1, h2⟩
      obtain ⟨e, he, ee⟩ := List.mem_map.mp h1
      have := of_decide_eq_true h2
      rw [← ee] at this
      exact hk' (List.mem_map.mpr ⟨e, he, Sum.inr.inj this⟩)
    have z0 : its.count k = 0 := List.count_eq_zero_of_not_mem hk
    refine ⟨ks ++ [(k, ((its.count k : Nat) : Int) + (n : Int))], ?_, ⟨?_, fun e he => ?_, fun j => ?_, ?_⟩, by rw [List.length_append]; exact Nat.le_refl _⟩
    · unfold putK
      rw [if_neg any, List.map_append]
      rfl
    · rw [List.map_append]
      refine List.nodup_append.mpr ⟨c.nd, List.nodup_cons.mpr ⟨by simp, List.nodup_nil⟩, fun a ha b hb => ?_⟩
      rw [List.mem_singleton.mp hb]
      intro z
      rw [z] at ha
      exact hk' ha
    · rw [cnt]
      rcases List.mem_append.mp he with z | z
      · have ne : e.1 ≠ k := fun w => hk' (List.mem_map.mpr ⟨e, z, w⟩)
        rw [if_neg ne]
        exact c.val e z
      · rw [List.mem_singleton.mp z]
        show ((its.count k : Nat) : Int) + (n : Int) = ((its.count k + if k = k then n else 0 : Nat) : Int)
        rw [if_pos rfl]
        omega
    · rw [mem, List.map_append, List.mem_append, c.cov j]
      show _ ∨ _ ↔ _ ∨ j ∈ [k]
      rw [List.mem_singleton]
    · rw [List.map_append, List.sum_append, c.sum, List.length_append, List.length_replicate, z0]
      show _ + ((((0 : Nat) : Int) + (n : Int)) + 0) = _
      omega
/-! ### sorted counts are unique -/
theorem Same.butB {H H1 H' : Hp} {D : Addr} (n : H D = none) (s : Same H H1) (b : But D H1 H') : Same H H' := fun a o e => b _ _ (ne_of_none e n) (s _ _ e)
def ltR (x y : Run) : Prop := x.1.cps.toList < y.1.cps.toList
theorem uniq_sorted : ∀ {l m : List Run}, l.Pairwise ltR → m.Pairwise ltR → (∀ x, x ∈ l ↔ x ∈ m) → l = m
  | [], [], _, _, _ => rfl
  | [], b :: m, _, _, h => absurd ((h b).mpr (List.mem_cons_self ..)) (by simp)
  | a :: l, [], _, _, h => absurd ((h a).mp (List.mem_cons_self ..)) (by simp)
  | a :: l, b :: m, hl, hm, h => by
    have hl := List.pairwise_cons.mp hl
    have hm := List.pairwise_cons.mp hm
    have e : a = b := by
      rcases List.mem_cons.mp ((h a).mp (List.mem_cons_self ..)) with z | z
      · exact z
      · rcases List.mem_cons.mp ((h b).mpr (List.mem_cons_self ..)) with w | w
        · exact w.symm
        · exact absurd (hl.1 b w) (List.lt_asymm (hm.1 a z))
    subst e
    congr 1
    refine uniq_sorted hl.2 hm.2 fun x => ⟨fun hx => ?_, fun hx => ?_⟩
    · rcases List.mem_cons.mp ((h x).mp (List.mem_cons_of_mem _ hx)) with z | z
      · rw [z] at hx
        exact absurd (hl.1 a hx) (List.lt_irrefl _)
      · exact z
    · rcases List.mem_cons.mp ((h x).mpr (List.mem_cons_of_mem _ hx)) with z | z
      · rw [z] at hx
        exact absurd (hm.1 a hx) (List.lt_irrefl _)
      · exact z
theorem lt_of_not {x y : Str} (n : x ≠ y) (h : ¬ y.cps.toList < x.cps.toList) : x.cps.toList < y.cps.toList := by
  by_cases c : x.cps.toList < y.cps.toList
  · exact c
  · exact absurd (UPS.str_of (List.le_antisymm h c)) n
theorem CT.strict {ks : List Run} {its : List Str} (c : CT ks its) (s : ks.Pairwise fun x y => UPS.lexS y x = false) : ks.Pairwise ltR := by
  have nd : ks.Pairwise fun x y => x.1 ≠ y.1 := List.pairwise_map.mp c.nd
  refine (List.Pairwise.and nd s).imp fun {x y} h => ?_
  exact lt_of_not h.1 ((UPS.lexS_no.mp h.2).2 fun z => h.1 z.symm)
theorem CT.eq {ks ls : List Run} {its : List Str} (c : CT ks its) (d : CT ls its) (s : ks.Pairwise fun x y => UPS.lexS y x = false) (t : ls.Pairwise fun x y => UPS.lexS y x = false) : ks = ls := by
  have sub : ∀ {a b : List Run}, CT a its → CT b its → ∀ x ∈ a, x ∈ b := by
    intro a b ca cb x hx
    have hk := (ca.cov x.1).mpr (List.mem_map.mpr ⟨x, hx, rfl⟩)
    obtain ⟨e, he, ee⟩ := List.mem_map.mp ((cb.cov x.1).mp hk)
    have : e = x := Prod.ext ee (by rw [cb.val e he, ca.val x hx, ee])
    rw [← this]
    exact he
  exact uniq_sorted (c.strict s) (d.strict t) fun x => ⟨sub c d x, sub d c x⟩
section
variable {P : Program} {w : World} {K : PySem.W.Frag} {mg : Str → Option Value} {base : Heap}
/-! counts_of: slots 0:sequence 1:totals 2:kind 3:count -/
abbrev s_counts_of : Stmt := topS 23
theorem sc_counts_of : FnScope ["sequence", "totals", "kind", "count"] ["sequence"] (defScope s_counts_of) := ⟨rfl, rfl, rfl, by decide +kernel, rfl, by decide +kernel, by decide +kernel⟩
def sp_counts_of : Sp := fun vs H Q _ => ∃ (av : V) (rs : List Run), vs = [av] ∧ RunsG H av rs ∧ SeqOk rs ∧ ∀ H' p out, Same H H' → H p = none → Runs H' p out → CT out (itR rs) → out.Pairwise (fun x y => UPS.lexS y x = false) → out.length ≤ rs.length → Q (.ref p) H'
theorem ok_counts_of (D : Df K mg "counts_of" s_counts_of) (T : Tx mg) (G_checked_runs : Has P w K mg base 5 "checked_runs" ["sequence"] sp_checked_runs) : Has P w K mg base 6 "counts_of" ["sequence"] sp_counts_of := by
  refine has_of D sc_counts_of (fun _ _ _ _ _ _ us hl => match us, hl with | [_], _ => rfl) (fun vs H Q E h => ?_) (fun f cdv A outer s₀ H vs Q E hr h => ?_)
  · obtain ⟨a, R, rfl, _⟩ := h
    rfl
  · obtain ⟨av, rs, rfl, hR, ok, q⟩ := h
    have l4 := ok.1
    refine ⟨_, (pss_cons (ps_set (i := 1) sc_counts_of.nd rfl (by first | exact Or.inl rfl | exact Or.inr rfl) pe_dnewK)
    (pss_cons (ps_for PassesOwn.never rfl (pi_list (pe_callH G_checked_runs (hr.mono (by omega)) (by rfl) (pa_cons (pv 0) pa_nil))) (pg_tup rfl (pgs_cons (pg_name (i := 2) sc_counts_of.nd rfl (by first | exact Or.inl rfl | exact Or.inr rfl)) (pgs_cons (pg_name (i := 3) sc_counts_of.nd rfl (by first | exact Or.inl rfl | exact Or.inr rfl)) pgs_nil)))
      (pss_one (ps_dput (hu_of hr) (pv 1) (pv 2) (pe_op op_add (pe_dget2 (hu_of hr) (pv 1) (pv 2) pe_int ⟨by rfl, by rfl, by rfl, by rfl⟩) (pv 3)) rfl)))
    (pss_one (ps_ret (pe_callB cr_sortedR (by rfl) T.n_sorted (by decide +kernel) (pa_cons (LiI.pe_listItems (by rfl) (pv 1) (by rfl) T.n_list (by decide +kernel)) pa_nil)))))), ?_⟩
    refine fun d nd => ⟨_, rfl, av, rs, rfl, hR.same (same_upd nd), ok, fun H1 p s1 np hp => ?_⟩
    obtain ⟨xs, hx, hpr⟩ := hp
    have lx : xs.length = rs.length := Paired.len hpr
    have sd := same_upd (o := .dK []) nd
    have hd1 : H1 d = some (.dK []) := s1 _ _ upd_same
    have pd : p ≠ d := fun z => by rw [z, hd1] at hx; cases hx
    refine ⟨p, rfl, ⟨xs, .of hx⟩, for_list (K := K) (a := p) (xs := xs) (fun i σ H' => ∃ y2 y3 ks, σ = [some av, some (.ref d), y2, y3] ∧ But d H1 H' ∧ H' d = some (.dK (ks.map entK)) ∧ CT ks (itR (rs.take i)) ∧ ks.length ≤ i) ⟨none, none, [], rfl, But.refl, hd1, CT.nil, Nat.le_refl _⟩ (fun i σ H' _ hP => ?_) (fun i x σ H2 ex hP => ?_) (fun σ H2 hP => ?_)⟩
    · obtain ⟨_, _, _, _, bt, _⟩ := hP
      exact .of (bt _ _ pd hx)
    · obtain ⟨y2, y3, ks, rfl, bt, hd, ct, lk⟩ := hP
      obtain ⟨r, er, ⟨t, rfl, ht⟩⟩ := Paired.at hpr ex
      have ht2 := bt _ _ (ne_of ht hd1 (by intro z; cases z)) ht
      have hi : i < xs.length := (List.getElem?_eq_some_iff.mp ex).1
      have c1 := (ok.2.1 r (List.mem_of_getElem? er)).2.1
      refine ⟨t, _, rfl, .of ht2, rfl, _, _, rfl, _, _, rfl, rfl, ?_⟩
      refine ⟨_, rfl, d, rfl, .inl ⟨_, .inl hd⟩, _, rfl, _, DGet.k (k := Sum.inr r.1) hd, ?_⟩
      rw [ct.get]
      obtain ⟨ks', e1, ct', l'⟩ := ct.put r.1 r.2.toNat (by omega)
      rw [show ((r.2.toNat : Nat) : Int) = r.2 by omega] at e1
      refine ⟨_, rfl, _, _, rfl, rfl, _, rfl, _, rfl, d, _, rfl, DPut.k (k := Sum.inr r.1) hd (by rw [List.length_map]; exact small (by omega)), ?_⟩
      refine ⟨_, _, ks', rfl, bt.trans but_upd, ?_, ?_, by omega⟩
      · rw [upd_same]
        exact congrArg (fun z => some (HO.dK z)) e1
      · rw [take_snoc er, itR_snoc]
        exact ct'
    · obtain ⟨y2, y3, ks, rfl, bt, hd, ct, lk⟩ := hP
      rw [lx, List.take_length] at ct
      have sA : Same H H2 := Same.butB nd (sd.trans s1) bt
      refine ⟨_, rfl, d, _, rfl, hd, fun H3 l ts k1 k2 _ _ k5 k6 => ?_⟩
      have s3 : Same H2 H3 := k1
      have rn : Runs H3 l ks := ⟨_, k5, ?_⟩
      · refine ⟨l, ks, rfl, rn, fun H4 l4 out s4 n4 hl pm so => q H4 l4 out (sA.trans (s3.trans s4)) ((sA.trans s3).free n4) hl (ct.perm pm) so ?_⟩
        rw [pm.length_eq]
        omega
      · have g : ∀ {as : List Addr} {es : List Run}, Paired (fun (t : Addr) (q : L2.Key × V) => H3 t = some (.tup [kV q.1, q.2])) as (es.map entK) → Paired (RunV H3) (as.map V.ref) es := by
          intro as es h
          induction es generalizing as with
          | nil => cases h; exact .nil
          | cons e u ih =>
            cases h with
            | cons h1 h2 => exact .cons ⟨_, rfl, h1⟩ (ih h2)
        exact g k6
end
end UP

set_option Elab.async false
set_option linter.all false
set_option maxRecDepth 100000
set_option maxHeartbeats 4000000
namespace UP
open PySem PySem.Spec PyProof.Rows L2
/-! ### the reel: a list of two lists of ints and two ints -/
def Reel (H : Hp) (p : Addr) : Prop := ∃ (g c : Addr) (gs cs : List Int) (n s : Int), H p = some (.lst [.ref g, .ref c, .int n, .int s]) ∧ H g = some (.lst (gs.map V.int)) ∧ H c = some (.lst (cs.map V.int)) ∧ gs.length ≤ 63 ∧ (∀ x ∈ gs, 0 ≤ x) ∧ 0 < cs.length ∧ cs.length ≤ 64 ∧ 0 ≤ n ∧ 0 ≤ s ∧ s < 170141183460469231731687303715884105727
def Off (H : Hp) (p D : Addr) : Prop := ∃ (g c : Addr) (n s : Int), H p = some (.lst [.ref g, .ref c, .int n, .int s]) ∧ D ≠ p ∧ D ≠ g ∧ D ≠ c
theorem not_ints {g c : Addr} {n s : Int} {l : List Int} : (HO.lst [.ref g, .ref c, .int n, .int s]) ≠ .lst (l.map V.int) := by
  intro h
  have h := HO.lst.inj h
  cases l with
  | nil => cases h
  | cons x t => cases h
theorem Reel.off {H : Hp} {p D : Addr} (z : Reel H p) (n : H D = none) : Off H p D := by
  obtain ⟨g, c, gs, cs, i, s, hp, hg, hc, _⟩ := z
  exact ⟨g, c, i, s, hp, fun e => by (rw [e, hp] at n; cases n), fun e => by (rw [e, hg] at n; cases n), fun e => by (rw [e, hc] at n; cases n)⟩
theorem Reel.ne {H : Hp} {p D : Addr} (z : Reel H p) (n : H D = none) : D ≠ p := by
  obtain ⟨_, _, _, _, _, h, _⟩ := z.off n
  exact h
theorem Off.ne {H : Hp} {p D : Addr} (z : Off H p D) : D ≠ p := by
  obtain ⟨_, _, _, _, _, h, _⟩ := z
  exact h
theorem Reel.same {H H' : Hp} {p : Addr} (z : Reel H p) (s : Same H H') : Reel H' p := by
  obtain ⟨g, c, gs, cs, i, t, hp, hg, hc, r⟩ := z
  exact ⟨g, c, gs, cs, i, t, s _ _ hp, s _ _ hg, s _ _ hc, r⟩
theorem Off.same {H H' : Hp} {p D : Addr} (z : Off H p D) (s : Same H H') : Off H' p D := by
  obtain ⟨g, c, i, t, hp, r⟩ := z
  exact ⟨g, c, i, t, s _ _ hp, r⟩
theorem Off.upd {H : Hp} {p D D' : Addr} {o : HO} (z : Off H p D) (n : D' ≠ p) : Off (upd H D' o) p D := by
  obtain ⟨g, c, i, t, hp, r⟩ := z
  exact ⟨g, c, i, t, by rw [upd_ne n.symm]; exact hp, r⟩
theorem Reel.upd {H : Hp} {p D : Addr} {x : HO} (z : Reel H p) (o : Off H p D) : Reel (upd H D x) p := by
  obtain ⟨g, c, gs, cs, i, t, hp, hg, hc, r⟩ := z
  obtain ⟨g', c', i', t', hp', n1, n2, n3⟩ := o
  rw [hp] at hp'
  cases hp'
  exact ⟨g, c, gs, cs, i, t, by rw [upd_ne n1.symm]; exact hp, by rw [upd_ne n2.symm]; exact hg, by rw [upd_ne n3.symm]; exact hc, r⟩
/-- all but the reel stays, and what was not of the reel is not of it -/
structure RB (p : Addr) (H H' : Hp) : Prop where
  but : But p H H'
  off : ∀ D o, H D = some o → Off H p D → Off H' p D
theorem RB.refl {p : Addr} {H : Hp} : RB p H H := ⟨But.refl, fun _ _ _ h => h⟩
theorem RB.trans {p : Addr} {H H1 H2 : Hp} (a : RB p H H1) (b : RB p H1 H2) : RB p H H2 := ⟨a.but.trans b.but, fun D o e h => b.off D o (a.but D o h.ne e) (a.off D o e h)⟩
theorem RB.of {p : Addr} {H H' : Hp} (s : Same H H') : RB p H H' := ⟨sb s, fun _ _ _ h => h.same s⟩
theorem RB.free {p q : Addr} {H H' : Hp} (b : RB p H H') (z : Reel H' p) (h : H' q = none) : H q = none := by
  by_cases e : q = p
  · exact absurd e (z.ne h)
  · cases r : H q with
    | none => rfl
    | some o =>
      rw [b.but q o e r] at h
      cases h
theorem RB.grow {p D : Addr} {H H' : Hp} {x : HO} (b : RB p H H') (n : H D = none) (o : Off H' p D) : RB p H (L2.upd H' D x) := ⟨fun q r e h => by
    rw [upd_ne (ne_of_none h n)]
    exact b.but q r e h, fun E r h k => (b.off E r h k).upd o.ne⟩
theorem RB.run {p : Addr} {H H' : Hp} {v : V} {r : Run} (b : RB p H H') (z : Reel H p) (h : RunV H v r) : RunV H' v r := by
  obtain ⟨t, e, h⟩ := h
  obtain ⟨_, _, _, _, _, _, hp, _⟩ := z
  exact ⟨t, e, b.but _ _ (ne_of h hp (by intro q; cases q)) h⟩
theorem RB.st {p : Addr} {H H' : Hp} {v : V} {st : Option Run} (b : RB p H H') (z : Reel H p) (h : StV H v st) : StV H' v st := by
  cases st with
  | none => exact h
  | some r => exact b.run z h
theorem RB.strs {p a : Addr} {H H' : Hp} {ks : List Str} (b : RB p H H') (z : Reel H p) (h : H a = some (.lst (ks.map V.str))) : H' a = some (.lst (ks.map V.str)) := by
  obtain ⟨_, _, _, _, _, _, hp, _⟩ := z
  refine b.but _ _ (ne_of h hp fun q => ?_) h
  have q := HO.lst.inj q
  cases ks with
  | nil => cases q
  | cons x t => cases q
theorem RB.tup {p a : Addr} {H H' : Hp} {xs : List V} (b : RB p H H') (z : Reel H p) (h : H a = some (.tup xs)) : H' a = some (.tup xs) := by
  obtain ⟨_, _, _, _, _, _, hp, _⟩ := z
  exact b.but _ _ (ne_of h hp (by intro q; cases q)) h
/-! ### lists of ints -/
theorem dp_intl {K : PySem.W.Frag} {H : Hp} : ∀ (l : List Int), DpAll K H (l.map V.int) (l.map PyData.int)
  | [] => .nil
  | x :: t => .cons (.int x) (dp_intl t)
theorem can_intl : ∀ (l : List Int), PyData.canLayAll0 (l.map PyData.int) = true
  | [] => by simp [PyData.canLayAll0]
  | x :: t => by
    rw [List.map_cons, PyData.canLayAll0, can_intl t]
    simp [PyData.canLay0]
theorem depth_intl : ∀ (l : List Int), PyData.depthAll (l.map PyData.int) ≤ 1
  | [] => by simp [PyData.depthAll]
  | x :: t => by
    rw [List.map_cons, PyData.depthAll]
    exact Nat.max_le.mpr ⟨by simp [PyData.depth], depth_intl t⟩
theorem shaped_intl (l : List Int) : SeqAt.shaped (.list (l.map PyData.int)) = true := by
  unfold SeqAt.shaped
  rw [PyData.canLay0, can_intl l, PyData.depth]
  have := depth_intl l
  exact decide_eq_true (by omega)
theorem eqv_nilI (l : List Int) : PyData.eqv (.list (l.map PyData.int)) (.list []) = l.isEmpty := by
  cases l with
  | nil => simp [PyData.eqv, PyData.eqvAll]
  | cons r t => simp [PyData.eqv, PyData.eqvAll]
theorem cut_dropR (xs : List V) (r : Int) (h0 : 0 ≤ r) (h1 : r ≤ xs.length) : cutV xs (some r) none = xs.drop r.toNat := by
  have e : HT.sIx xs.length 0 (some r) = r.toNat := by
    have := HT.sIx_nat xs.length 0 r.toNat
    rw [show ((r.toNat : Nat) : Int) = r by omega] at this
    omega
  unfold cutV
  rw [e, HT.sIx_none, List.take_of_length_le (by rw [List.length_drop]; exact Nat.le_refl _)]
theorem atI_ofR {α : Type} {l : List α} {i : Int} {x : α} (h0 : 0 ≤ i) (h : l[i.toNat]? = some x) : atI l i = some x := by
  have e : i = (i.toNat : Int) := by omega
  rw [e]
  exact atI_nat h
theorem at40 {α : Type} {x y z u : α} : atI [x, y, z, u] 0 = some x := rfl
theorem at41 {α : Type} {x y z u : α} : atI [x, y, z, u] 1 = some y := rfl
theorem at42 {α : Type} {x y z u : α} : atI [x, y, z, u] 2 = some z := rfl
theorem at43 {α : Type} {x y z u : α} : atI [x, y, z, u] 3 = some u := rfl
section
variable {P : Program} {w : World} {K : PySem.W.Frag} {mg : Str → Option Value} {base : Heap}
/-! _law_draw: slots 0:reel 1:many 2:extra 3:stir 4:rest -/
abbrev s_law_draw : Stmt := topS 41
theorem sc_law_draw : FnScope ["reel", "many", "extra", "stir", "rest"] ["reel", "many"] (defScope s_law_draw) := ⟨rfl, rfl, rfl, by decide +kernel, rfl, by decide +kernel, by decide +kernel⟩
def sp_law_draw : Sp := fun vs H Q _ => ∃ (p : Addr) (m : Int), vs = [.ref p, .int m] ∧ Reel H p ∧ 1 ≤ m ∧ m.natAbs < 2 ^ 8000 ∧ ∀ H' r, RB p H H' → Reel H' p → 0 ≤ r → r < m → Q (.int r) H'
theorem p127 : (2 : Int) ^ ((64 : Int).toNat) * 2 ^ ((63 : Int).toNat) - 1 = 170141183460469231731687303715884105727 := by decide +kernel
theorem ok_law_draw (D : Df K mg "_law_draw" s_law_draw) (T : Tx mg) : Has P w K mg base 1 "_law_draw" ["reel", "many"] sp_law_draw := by
  refine has_of D sc_law_draw (fun _ _ _ _ _ _ us hl => match us, hl with | [_, _], _ => rfl) (fun vs H Q E h => ?_) (fun f cdv A outer s₀ H vs Q E hr h => ?_)
  · obtain ⟨a, rs, rfl, _⟩ := h
    rfl
  · obtain ⟨p, m, rfl, z, m1, m2, q⟩ := h
    have z0 := z
    obtain ⟨g, c, gs, cs, n, s, hp, hg, hc, lg, g0, lc, lc2, n0, s0, s1⟩ := z
    refine ⟨_, (pss_cons (ps_if (pt_cmpR (op_neD hr.units) (pe_ix ix_list (pv 0) pe_int (fun _ _ => rfl)) (pe_lst pa_nil) (nomark _)) (pss_cons (ps_set (i := 4) sc_law_draw.nd rfl (by first | exact Or.inl rfl | exact Or.inr rfl) (pe_ix ix_list (pe_ix ix_list (pv 0) pe_int (fun _ _ => rfl)) pe_int (fun _ _ => rfl)))
    (pss_cons (ps_asg (pe_op op_cat (pe_op op_rep (pe_lst (pa_cons (pe_op op_fdivW (pv 4) (pv 1)) pa_nil)) (pe_callTy call_int1 (by rfl) T.n_int (by decide +kernel) (pa_cons (pe_cmpR op_ge (pv 4) (pv 1) (nomark _)) pa_nil))) (pe_slice sl_list (pe_ix ix_list (pv 0) pe_int (fun _ _ => rfl)) (po_some pe_int) po_none)) (pg_sub (pv 0) pe_int set_list))
    (pss_one (ps_ret (pe_op op_mod (pv 4) (pv 1)))))) pss_nil)
    (pss_cons (ps_asg (pe_op op_add (pe_ix ix_list (pv 0) pe_int (fun _ _ => rfl)) pe_int) (pg_sub (pv 0) pe_int set_list))
    (pss_cons (ps_set (i := 2) sc_law_draw.nd rfl (by first | exact Or.inl rfl | exact Or.inr rfl) (pe_ix ix_list (pe_ix ix_list (pv 0) pe_int (fun _ _ => rfl)) (pe_op op_mod (pe_ix ix_list (pv 0) pe_int (fun _ _ => rfl)) (pe_callB call_len_seq (by rfl) T.n_len (by decide +kernel) (pa_cons (pe_ix ix_list (pv 0) pe_int (fun _ _ => rfl)) pa_nil))) (fun _ _ => rfl)))
    (pss_cons (ps_set (i := 3) sc_law_draw.nd rfl (by first | exact Or.inl rfl | exact Or.inr rfl) (pe_op op_add (pe_op op_add (pe_op op_mulW (pe_ix ix_list (pv 0) pe_int (fun _ _ => rfl)) (pe_ix ix_list (pv 0) pe_int (fun _ _ => rfl))) (pe_op op_mul (pe_op op_add (pv 2) pe_int) pe_int)) (pe_op op_mul (pe_ix ix_list (pv 0) pe_int (fun _ _ => rfl)) pe_int)))
    (pss_cons (ps_asg (pe_op op_mod (pv 3) (pe_op op_sub (pe_op op_mul (pe_op op_pow pe_int pe_int) (pe_op op_pow pe_int pe_int)) pe_int)) (pg_sub (pv 0) pe_int set_list))
    (pss_one (ps_ret (pe_op op_mod (pe_op op_fdivW (pe_ix ix_list (pv 0) pe_int (fun _ _ => rfl)) (pe_op op_pow pe_int pe_int)) (pv 1))))))))), ?_⟩
    refine ⟨_, rfl, p, _, 0, _, rfl, rfl, .of hp, at40, Nat.zero_le _, fun e ne => ?_⟩
    have se := same_upd (o := .lst []) ne
    refine ⟨.list (gs.map PyData.int), .list [], .lst (.of (se _ _ hg)) (dp_intl gs), .lst (.of upd_same) .nil, shaped_intl gs, shaped_nil, _, rfl, ?_⟩
    rw [eqv_nilI]
    replace hp := se _ _ hp
    replace hg := se _ _ hg
    replace hc := se _ _ hc
    have z1 := z0.same se
    generalize L2.upd H e (.lst []) = H1 at *
    cases gs with
    | cons x t =>
      refine iteP rfl ?_
      have x0 := g0 x (List.mem_cons_self ..)
      refine ⟨_, rfl, p, _, 0, _, rfl, rfl, .of hp, at40, g, _, 0, _, rfl, rfl, .of hg, atI_ofR (Int.le_refl _) rfl, ?_⟩
      refine ⟨_, rfl, _, rfl, _, _, rfl, rfl, wide_div (by omega) m2 (by decide) (by decide), (by show 1 ≤ sizeLine; decide), fun l1 n1 => ?_⟩
      have u1 := same_upd (o := .lst [.int (x / m)]) n1
      refine ⟨_, rfl, _, rfl, _, _, rfl, rfl, .inr ⟨_, rfl, l1, _, _, rfl, rfl, upd_same, ?_⟩⟩
      have hk : ∃ k : Nat, k ≤ 1 ∧ (if decide (m ≤ x) = true then (1 : Int) else 0) = (k : Int) := by
        by_cases y : m ≤ x
        · exact ⟨1, Nat.le_refl _, by rw [decide_eq_true y]; rfl⟩
        · exact ⟨0, Nat.zero_le _, by rw [decide_eq_false y]; rfl⟩
      obtain ⟨k, k1, ek⟩ := hk
      rw [show (if decide (x ≥ m) = true then (1 : Int) else 0) = (k : Int) from ek]
      refine ⟨by omega, by omega, ?_, fun l2 n2 => ?_⟩
      · rw [Int.toNat_natCast]
        show 1 * k ≤ sizeLine
        exact Nat.le_of_lt (small (by omega))
      rw [Int.toNat_natCast, show (List.replicate k [V.int (x / m)]).flatten = (List.replicate k (x / m)).map V.int by rw [List.map_replicate, List.flatten_replicate_singleton]]
      have u2 := same_upd (o := .lst ((List.replicate k (x / m)).map V.int)) n2
      refine ⟨_, rfl, p, _, 0, _, rfl, rfl, .of (u2 _ _ (u1 _ _ hp)), at40, _, rfl, g, _, rfl, SqL.of (u2 _ _ (u1 _ _ hg)), fun l3 n3 => ?_⟩
      rw [cut_dropR _ 1 (by omega) (by rw [List.length_map, List.length_cons]; omega), show ((x :: t).map V.int).drop (1 : Int).toNat = t.map V.int from rfl]
      have u3 := same_upd (o := .lst (t.map V.int)) n3
      refine ⟨l2, l3, _, _, rfl, rfl, u3 _ _ upd_same, upd_same, ?_, fun l4 n4 => ?_⟩
      · rw [List.length_map, List.length_map, List.length_replicate]
        rw [List.length_cons] at lg
        exact Nat.le_of_lt (small (by omega))
      have u4 := same_upd (o := .lst ((List.replicate k (x / m)).map V.int ++ t.map V.int)) n4
      have sA := u1.trans (u2.trans (u3.trans u4))
      refine ⟨_, rfl, p, _, 0, 0, rfl, rfl, sA _ _ hp, rfl, ?_⟩
      refine ⟨_, rfl, _, rfl, _, _, rfl, rfl, (by omega), ?_⟩
      have n4p : l4 ≠ p := (ne_of_none ((u1.trans (u2.trans u3)) _ _ hp) n4).symm
      refine q _ _ ⟨fun b o nb eb => ?_, fun D o eD oD => ?_⟩ ⟨l4, c, List.replicate k (x / m) ++ t, cs, n, s, upd_same, ?_, ?_, ?_, ?_, lc, lc2, n0, s0, s1⟩ (Int.emod_nonneg _ (by omega)) (Int.emod_lt_of_pos _ (by omega))
      · rw [upd_ne nb]
        exact sA _ _ (se _ _ eb)
      · obtain ⟨g', c', i', t', hp', e1, e2, e3⟩ := oD.same se
        rw [hp] at hp'
        cases hp'
        refine ⟨l4, c, n, s, upd_same, e1, ?_, e3⟩
        exact ne_of_none ((u1.trans (u2.trans u3)) _ _ (se _ _ eD)) n4
      · rw [upd_ne n4p, upd_same, List.map_append]
      · rw [upd_ne (ne_of hc hp (fun q => not_ints q.symm))]
        exact sA _ _ hc
      · rw [List.length_append, List.length_replicate]
        rw [List.length_cons] at lg
        omega
      · intro y hy
        rcases List.mem_append.mp hy with h | h
        · rw [List.eq_of_mem_replicate h]
          exact Int.ediv_nonneg x0 (by omega)
        · exact g0 y (List.mem_cons_of_mem _ h)
    | nil =>
      refine iteN rfl ?_
      refine ⟨_, rfl, p, _, 2, _, rfl, rfl, .of hp, at42, _, _, rfl, rfl, ?_⟩
      refine ⟨_, rfl, p, _, 2, 2, rfl, rfl, hp, rfl, ?_⟩
      have np : c ≠ p := ne_of hc hp (fun q => not_ints q.symm)
      have h2 : (L2.upd H1 p (.lst [.ref g, .ref c, .int (n + 1), .int s])) p = some (.lst [.ref g, .ref c, .int (n + 1), .int s]) := upd_same
      have hc2 : (L2.upd H1 p (.lst [.ref g, .ref c, .int (n + 1), .int s])) c = some (.lst (cs.map V.int)) := by rw [upd_ne np]; exact hc
      have ix0 := Int.emod_nonneg (n + 1) (b := (cs.length : Int)) (by omega)
      have ix1 := Int.emod_lt_of_pos (n + 1) (b := (cs.length : Int)) (by omega)
      obtain ⟨x, hx⟩ : ∃ x, cs[((n + 1) % (cs.length : Int)).toNat]? = some x := ⟨_, List.getElem?_eq_getElem (by omega)⟩
      have hx2 : (cs.map V.int)[((n + 1) % (cs.length : Int)).toNat]? = some (.int x) := by rw [List.getElem?_map, hx]; rfl
      refine ⟨_, rfl, p, _, 1, _, rfl, rfl, .of h2, at41, _, rfl, p, _, 2, _, rfl, rfl, .of h2, at42, _, rfl, p, _, 1, _, rfl, rfl, .of h2, at41, c, _, rfl, .inl (.of hc2), ?_⟩
      rw [List.length_map]
      refine ⟨_, _, rfl, rfl, (by omega), c, _, _, _, rfl, rfl, .of hc2, atI_ofR ix0 hx2, ?_⟩
      refine ⟨_, rfl, p, _, 3, _, rfl, rfl, .of h2, at43, _, rfl, p, _, 3, _, rfl, rfl, .of h2, at43, _, _, rfl, rfl, wide_mul (a := 127) (b := 127) (by omega) (by omega) (by decide) (by decide) (by decide), _, rfl, _, _, rfl, rfl, _, _, rfl, rfl, .inr ⟨by decide, by decide⟩, _, _, rfl, rfl, _, rfl, p, _, 2, _, rfl, rfl, .of h2, at42, _, _, rfl, rfl, .inr ⟨by decide, by decide⟩, _, _, rfl, rfl, ?_⟩
      refine ⟨_, rfl, _, _, rfl, rfl, ⟨by decide, by decide, by decide⟩, _, _, rfl, rfl, ⟨by decide, by decide, by decide⟩, _, _, rfl, rfl, .inr ⟨by decide +kernel, by decide +kernel⟩, _, _, rfl, rfl, _, _, rfl, rfl, ?_, ?_⟩
      · rw [p127]
        show (0 : Int) < 170141183460469231731687303715884105727
        decide
      rw [p127]
      refine ⟨_, rfl, p, _, 3, 3, rfl, rfl, h2, rfl, ?_⟩
      have h3 : ∀ y : Int, (L2.upd (L2.upd H1 p (.lst [.ref g, .ref c, .int (n + 1), .int s])) p (.lst [.ref g, .ref c, .int (n + 1), .int y])) p = some (.lst [.ref g, .ref c, .int (n + 1), .int y]) := fun y => upd_same
      refine ⟨_, rfl, p, _, 3, _, rfl, rfl, .of (h3 _), at43, _, _, rfl, rfl, ⟨by decide, by decide, by decide⟩, _, _, rfl, rfl, wide_div (b := 64) (by decide) (by decide) (by decide) (by decide), _, rfl, _, _, rfl, rfl, (by omega), ?_⟩
      have ng : g ≠ p := ne_of hg hp (fun q => not_ints (l := []) q.symm)
      refine q _ _ ⟨fun b o nb eb => ?_, fun D o eD oD => ?_⟩ ⟨g, c, [], cs, n + 1, _, h3 _, ?_, ?_, Nat.zero_le _, (fun y h => by cases h), lc, lc2, by omega, Int.emod_nonneg _ (by decide), Int.emod_lt_of_pos _ (by decide)⟩ (Int.emod_nonneg _ (by omega)) (Int.emod_lt_of_pos _ (by omega))
      · rw [upd_ne nb, upd_ne nb]
        exact se _ _ eb
      · obtain ⟨g', c', i', t', hp', e1, e2, e3⟩ := oD.same se
        rw [hp] at hp'
        cases hp'
        exact ⟨g, c, _, _, h3 _, e1, e2, e3⟩
      · rw [upd_ne ng, upd_ne ng]
        exact hg
      · rw [upd_ne np, upd_ne np]
        exact hc
end
end UP

set_option Elab.async false
set_option linter.all false
set_option maxRecDepth 100000
set_option maxHeartbeats 4000000
namespace UP
open PySem PySem.Spec PyProof.Rows L2
theorem SqL.sameR {K : PySem.W.Frag} {H H' : Hp} {a : Addr} {xs : List V} (h : SqL K H a xs) (s : Same H H') : SqL K H' a xs := h.elim (fun z => .inl (z.elim (fun y => .inl (s _ _ y)) (fun ⟨o, y⟩ => .inr ⟨o, s _ _ y⟩))) (fun z => .inr z)
theorem erase_permR {α : Type} : ∀ (l : List α) (i : Nat) (h : i < l.length), (l[i] :: l.eraseIdx i).Perm l
  | [], i, h => absurd h (Nat.not_lt_zero _)
  | x :: t, 0, _ => List.Perm.refl _
  | x :: t, i + 1, h => by
    have h' : i < t.length := Nat.lt_of_succ_lt_succ h
    show (t[i] :: x :: t.eraseIdx i).Perm (x :: t)
    exact (List.Perm.swap x _ _).trans ((erase_permR t i h').cons x)
theorem cut63 (ns : List Int) : ∃ ms : List Int, cutV (ns.map V.int) none (some 63) = ms.map V.int ∧ ms.length ≤ 63 := by
  refine ⟨_, by unfold cutV; rw [← List.map_drop, ← List.map_take], ?_⟩
  rw [List.length_take, List.length_drop]
  have : HT.sIx (ns.map V.int).length (ns.map V.int).length (some 63) ≤ 63 := by
    have := HT.sIx_nat (ns.map V.int).length (ns.map V.int).length 63
    have e : HT.sIx (ns.map V.int).length (ns.map V.int).length (some 63) = HT.sIx (ns.map V.int).length (ns.map V.int).length (some ((63 : Nat) : Int)) := rfl
    rw [e, this]
    exact Nat.min_le_left ..
  omega
theorem int_at {ms : List Int} {i : Nat} {x : V} (h : (ms.map V.int)[i]? = some x) : ∃ n, x = .int n := by
  rw [List.getElem?_map] at h
  cases e : ms[i]? with
  | none =>
    rw [e] at h
    cases h
  | some n =>
    rw [e] at h
    exact ⟨n, (Option.some.inj h).symm⟩
section
variable {P : Program} {w : World} {K : PySem.W.Frag} {mg : Str → Option Value} {base : Heap}
/-! _law_reel: slots 0:script 1:stir 2:cell 3:great -/
abbrev s_law_reel : Stmt := topS 40
theorem sc_law_reel : FnScope ["script", "stir", "cell", "great"] ["script"] (defScope s_law_reel) := ⟨rfl, rfl, rfl, by decide +kernel, rfl, by decide +kernel, by decide +kernel⟩
def sp_law_reel (K : PySem.W.Frag) : Sp := fun vs H Q _ => ∃ (a : Addr) (ns : List Int), vs = [.ref a] ∧ SqL K H a (ns.map V.int) ∧ ∀ H' p, Same H H' → H p = none → Reel H' p → Q (.ref p) H'
theorem ok_law_reel (D : Df K mg "_law_reel" s_law_reel) (T : Tx mg) : Has P w K mg base 1 "_law_reel" ["script"] (sp_law_reel K) := by
  refine has_of D sc_law_reel (fun _ _ _ _ _ _ us hl => match us, hl with | [_], _ => rfl) (fun vs H Q E h => ?_) (fun f cdv A outer s₀ H vs Q E hr h => ?_)
  · obtain ⟨a, rs, rfl, _⟩ := h
    rfl
  · obtain ⟨a, ns, rfl, hS, q⟩ := h
    obtain ⟨ms, em, lm⟩ := cut63 ns
    refine ⟨_, (pss_cons (ps_set (i := 1) sc_law_reel.nd rfl (by first | exact Or.inl rfl | exact Or.inr rfl) (pe_op op_pow pe_int pe_int))
    (pss_cons (ps_for PassesOwn.never rfl (pi_list (pe_slice sl_list (pv 0) po_none (po_some pe_int))) (pg_name (i := 2) sc_law_reel.nd rfl (by first | exact Or.inl rfl | exact Or.inr rfl))
      (pss_one (ps_set (i := 1) sc_law_reel.nd rfl (by first | exact Or.inl rfl | exact Or.inr rfl) (pe_op op_mod (pe_op op_add (pe_op op_add (pe_op op_mulW (pv 1) (pv 1)) (pe_op op_mod (pv 2) pe_int)) pe_int) (pe_op op_sub (pe_op op_mul (pe_op op_pow pe_int pe_int) (pe_op op_pow pe_int pe_int)) pe_int)))))
    (pss_cons (ps_setLc (i := 3) (own := [("cell", 2)]) rfl sc_law_reel.nd rfl rfl (sw_true rfl rfl rfl (by decide +kernel)) (pi_list (pe_slice sl_list (pv 0) po_none (po_some pe_int))) (blkOk_by (N := ["script", "stir", "cell", "great"]) (sc := defScope s_law_reel) (by decide +kernel)) (fun _ _ _ _ _ => (pg_name (i := 2) sc_law_reel.nd rfl (by first | exact Or.inl rfl | exact Or.inr rfl))) (fun _ _ _ _ _ => pts_one (pt_cmpR op_ge (pv 2) (pe_op op_pow pe_int pe_int) (nomark _))) (fun _ _ _ _ _ => (pe_op op_sub (pv 2) (pe_op op_pow pe_int pe_int))))
    (pss_one (ps_ret (pe_lst (pa_cons (pv 3) (pa_cons (pe_op op_cat (pe_lc (own := [("cell", 2)]) rfl sc_law_reel.nd (pi_list (pe_slice sl_list (pv 0) po_none (po_some pe_int))) (blkOk_by (N := ["script", "stir", "cell", "great"]) (sc := defScope s_law_reel) (by decide +kernel)) (fun _ _ _ _ _ => (pg_name (i := 2) sc_law_reel.nd rfl (by first | exact Or.inl rfl | exact Or.inr rfl))) (fun _ _ _ _ _ => pts_nil) (fun _ _ _ _ _ => (pe_op op_mod (pv 2) pe_int))) (pe_lst (pa_cons pe_int pa_nil))) (pa_cons pe_int (pa_cons (pv 1) pa_nil)))))))))), ?_⟩
    refine ⟨_, _, rfl, rfl, ⟨by decide, by decide, by decide⟩, ?_⟩
    refine ⟨_, rfl, _, rfl, a, _, rfl, hS, fun c nc => ?_⟩
    rw [em]
    have sc : Same H (upd H c (.lst (ms.map V.int))) := same_upd nc
    refine ⟨c, rfl, ⟨_, .of upd_same⟩, for_list (K := K) (a := c) (xs := ms.map V.int) (fun i σ H' => ∃ s y2, σ = [some (.ref a), some (.int s), y2, none] ∧ H' = upd H c (.lst (ms.map V.int)) ∧ 0 ≤ s ∧ s < 170141183460469231731687303715884105727)
      ⟨_, none, rfl, rfl, by decide +kernel, by decide +kernel⟩ (fun i σ H' _ hP => ?_) (fun i x σ H4 ex hP => ?_) (fun σ H4 hP => ?_)⟩
    · obtain ⟨_, _, _, rfl, _⟩ := hP
      exact .of upd_same
    · obtain ⟨s, y2, rfl, rfl, s0, s1⟩ := hP
      obtain ⟨n, rfl⟩ := int_at ex
      refine ⟨_, rfl, _, rfl, _, _, rfl, rfl, wide_mul (a := 127) (b := 127) (by omega) (by omega) (by decide) (by decide) (by decide), _, rfl, _, _, rfl, rfl, (by show (0 : Int) < 1000000000000000003; decide), _, _, rfl, rfl, _, _, rfl, rfl, _, _, rfl, rfl, ⟨by decide, by decide, by decide⟩, _, _, rfl, rfl, ⟨by decide, by decide, by decide⟩, _, _, rfl, rfl, .inr ⟨by decide +kernel, by decide +kernel⟩, _, _, rfl, rfl, _, _, rfl, rfl, ?_, ?_⟩
      · rw [p127]
        show (0 : Int) < 170141183460469231731687303715884105727
        decide
      rw [p127]
      exact ⟨_, _, rfl, rfl, Int.emod_nonneg _ (by decide), Int.emod_lt_of_pos _ (by decide)⟩
    · obtain ⟨s, y2, rfl, rfl, s0, s1⟩ := hP
      generalize upd H c (.lst (ms.map V.int)) = H1 at *
      refine ⟨_, rfl, _, rfl, a, _, rfl, SqL.sameR hS sc, fun c2 nc2 => ?_⟩
      rw [em]
      have sc2 : Same H1 (upd H1 c2 (.lst (ms.map V.int))) := same_upd nc2
      refine ⟨c2, rfl, ⟨_, .of upd_same⟩, fun L nL => lc_list (K := K) (a := c2) (xs := ms.map V.int) (fun i H' => Same (upd H1 c2 (.lst (ms.map V.int))) H' ∧ ∃ gs : List Int, H' L = some (.lst (gs.map V.int)) ∧ gs.length ≤ i ∧ ∀ x ∈ gs, 0 ≤ x)
        ⟨same_upd nL, [], upd_same, Nat.le_refl _, fun x h => by cases h⟩ (fun i H' _ p => .of (p.1 _ _ upd_same)) (fun i x H5 ex hP => ?_) (fun H5 hP => ?_)⟩
      · obtain ⟨s5, gs, hL, lg, g0⟩ := hP
        have hi : i < ms.length := by
          have := (List.getElem?_eq_some_iff.mp ex).1
          rw [List.length_map] at this
          exact this
        obtain ⟨n, rfl⟩ := int_at ex
        refine ⟨rfl, _, rfl, _, _, rfl, rfl, ⟨by decide, by decide, by decide⟩, _, _, rfl, rfl, _, rfl, ite2 (fun e => ?_) (fun e => ?_)⟩
        · have e : (10 : Int) ^ ((18 : Int).toNat) ≤ n := of_decide_eq_true e
          refine ⟨_, rfl, _, _, rfl, rfl, ⟨by decide, by decide, by decide⟩, _, _, rfl, rfl, _, hL, ?_, same_grow nL s5, gs ++ [n - (10 : Int) ^ ((18 : Int).toNat)], ?_, ?_, ?_⟩
          · rw [List.length_map]
            exact small (by omega)
          · rw [upd_same, List.map_append]
            rfl
          · rw [List.length_append]
            show gs.length + 1 ≤ i + 1
            omega
          · intro x hx
            rcases List.mem_append.mp hx with h | h
            · exact g0 x h
            · rw [List.mem_singleton.mp h]
              omega
        · exact ⟨s5, gs, hL, by omega, g0⟩
      · obtain ⟨s5, gs, hL, lg, g0⟩ := hP
        rw [List.length_map] at lg
        refine ⟨_, rfl, ?_⟩
        have sB : Same H1 H5 := sc2.trans s5
        refine ⟨_, rfl, _, rfl, a, _, rfl, SqL.sameR (SqL.sameR hS sc) sB, fun c3 nc3 => ?_⟩
        rw [em]
        have sc3 : Same H5 (upd H5 c3 (.lst (ms.map V.int))) := same_upd nc3
        refine ⟨c3, rfl, ⟨_, .of upd_same⟩, fun M nM => lc_list (K := K) (a := c3) (xs := ms.map V.int) (fun i H' => Same (upd H5 c3 (.lst (ms.map V.int))) H' ∧ ∃ cs : List Int, H' M = some (.lst (cs.map V.int)) ∧ cs.length = i)
          ⟨same_upd nM, [], upd_same, rfl⟩ (fun i H' _ p => .of (p.1 _ _ upd_same)) (fun i x H6 ex hP => ?_) (fun H6 hP => ?_)⟩
        · obtain ⟨s6, cs, hM, lc⟩ := hP
          have hi : i < ms.length := by
            have := (List.getElem?_eq_some_iff.mp ex).1
            rw [List.length_map] at this
            exact this
          obtain ⟨n, rfl⟩ := int_at ex
          refine ⟨rfl, yesT ⟨_, rfl, _, _, rfl, rfl, (by show (0 : Int) < 1000003; decide), _, hM, ?_, same_grow nM s6, cs ++ [n % 1000003], ?_, ?_⟩⟩
          · rw [List.length_map]
            exact small (by omega)
          · rw [upd_same, List.map_append]
            rfl
          · rw [List.length_append, lc]
            rfl
        · obtain ⟨s6, cs, hM, lc⟩ := hP
          rw [List.length_map] at lc
          refine ⟨(by show 1 ≤ sizeLine; decide), fun o no => ?_⟩
          have s7 := same_upd (o := .lst [.int 57]) no
          refine ⟨M, o, _, _, rfl, rfl, s7 _ _ hM, upd_same, ?_, fun r nr => ?_⟩
          · rw [List.length_map]
            show cs.length + 1 ≤ sizeLine
            exact Nat.le_of_lt (small (by omega))
          have s8 := same_upd (o := .lst (cs.map V.int ++ [.int 57])) nr
          refine ⟨_, rfl, (by show 4 ≤ sizeLine; decide), fun p np => ?_⟩
          have s9 := same_upd (o := .lst [.ref L, .ref r, .int 0, .int s]) np
          have sC := sc3.trans (s6.trans (s7.trans s8))
          have sT : Same H _ := sc.trans (sB.trans sC)
          refine q _ p (sT.trans s9) (sT.free np) ⟨L, r, gs, cs ++ [57], 0, s, upd_same, s9 _ _ (sC _ _ hL), ?_, by omega, g0, ?_, ?_, Int.le_refl _, s0, s1⟩
          · rw [s9 _ _ upd_same, List.map_append]
            rfl
          · rw [List.length_append]
            exact Nat.succ_pos _
          · rw [List.length_append]
            show cs.length + 1 ≤ 64
            omega
/-! _law_names: slots 0:reel 1:many 2:pool 3:turn -/
abbrev s_law_names : Stmt := topS 42
theorem sc_law_names : FnScope ["reel", "many", "pool", "turn"] ["reel", "many"] (defScope s_law_names) := ⟨rfl, rfl, rfl, by decide +kernel, rfl, by decide +kernel, by decide +kernel⟩
def thirteen : List Str := ["a", "b", "c", "ab", "zz", "z", "abcdefgh", "m", "ba", "q", "aa", "k", "waits"]
theorem thirteen_nd : thirteen.Nodup := by decide +kernel
theorem thirteen_no : ("other" : Str) ∉ thirteen := by decide +kernel
theorem thirteen_ok : ∀ s ∈ thirteen, KindOk s := by decide +kernel
def sp_law_names : Sp := fun vs H Q _ => ∃ (p : Addr) (m : Int), vs = [.ref p, .int m] ∧ Reel H p ∧ 0 ≤ m ∧ m ≤ 13 ∧ ∀ (H' : Hp) (l : Addr) (ks : List Str), RB p H H' → Reel H' p → H l = none → H' l = some (.lst (ks.map V.str)) → Off H' p l → ((ks.length : Nat) : Int) = m → (∀ s ∈ ks, KindOk s) → ks.Nodup ∧ sortedS ks = true ∧ ("other" : Str) ∉ ks → Q (.ref l) H'
theorem ok_law_names (D : Df K mg "_law_names" s_law_names) (T : Tx mg) (G_law_draw : Has P w K mg base 1 "_law_draw" ["reel", "many"] sp_law_draw) : Has P w K mg base 2 "_law_names" ["reel", "many"] sp_law_names := by
  refine has_of D sc_law_names (fun _ _ _ _ _ _ us hl => match us, hl with | [_, _], _ => rfl) (fun vs H Q E h => ?_) (fun f cdv A outer s₀ H vs Q E hr h => ?_)
  · obtain ⟨_, _, rfl, _⟩ := h
    rfl
  · obtain ⟨p, m, rfl, z, m1, m2, q⟩ := h
    refine ⟨_, (pss_cons (ps_set (i := 2) sc_law_names.nd rfl (by first | exact Or.inl rfl | exact Or.inr rfl) (pe_lst (pa_cons pe_str (pa_cons pe_str (pa_cons pe_str (pa_cons pe_str (pa_cons pe_str (pa_cons pe_str (pa_cons pe_str (pa_cons pe_str (pa_cons pe_str (pa_cons pe_str (pa_cons pe_str (pa_cons pe_str (pa_cons pe_str pa_nil)))))))))))))))
    (pss_one (ps_ret (pe_callB cr_sortedS (by rfl) T.n_sorted (by decide +kernel) (pa_cons (pe_lc (own := [("turn", 3)]) rfl sc_law_names.nd (pi_range1 (by rfl) T.n_range (pa_cons (pv 1) pa_nil)) (blkOk_by (N := ["reel", "many", "pool", "turn"]) (sc := defScope s_law_names) (by decide +kernel)) (fun _ _ _ _ _ => (pg_name (i := 3) sc_law_names.nd rfl (by first | exact Or.inl rfl | exact Or.inr rfl))) (fun _ _ _ _ _ => pts_nil) (fun _ _ _ _ _ => (pe_bmK (K := K) rfl (pe_bm PySem.F.plainAttrs_list PySem.F.slot_list_pop PySem.F.type_list_pop mt_popAt (pv 2) (pa_cons (pe_callH G_law_draw (hr.mono (by omega)) (by rfl) (pa_cons (pv 0) (pa_cons (pe_callB (call_len_seqK (K := K) rfl) (by rfl) T.n_len (by decide +kernel) (pa_cons (pv 2) pa_nil)) pa_nil))) pa_nil))))) pa_nil))))), ?_⟩
    refine ⟨(by show 13 ≤ sizeLine; decide), fun pl npl => ?_⟩
    have n1 := z.ne npl
    have opl : Off (upd H pl (.lst (thirteen.map V.str))) p pl := (z.off npl).upd n1
    have z1 : Reel (upd H pl (.lst (thirteen.map V.str))) p := z.same (same_upd npl)
    refine ⟨_, rfl, m, rfl, by omega, by omega, fun L nL => ?_⟩
    have nLp : L ≠ pl := fun e => by rw [e, upd_same] at nL; cases nL
    have nLH : H L = none := (same_upd npl).free nL
    have nLs := z1.ne nL
    refine lc_range (lo := 0) (n := m.toNat) (fun i H' => ∃ ps ks : List Str, RB p H H' ∧ Reel H' p ∧ Off H' p pl ∧ Off H' p L ∧ H' pl = some (.lst (ps.map V.str)) ∧ ps.length + i = 13 ∧ (∀ s ∈ ps, KindOk s) ∧ H' L = some (.lst (ks.map V.str)) ∧ ks.length = i ∧ (∀ s ∈ ks, KindOk s) ∧ (ps ++ ks).Perm thirteen)
      ⟨thirteen, [], (RB.of (same_upd npl)).trans (RB.of (same_upd nL)), z1.same (same_upd nL), opl.same (same_upd nL), (z1.off nL).upd nLs, by rw [upd_ne nLp.symm, upd_same]; rfl, rfl, thirteen_ok, upd_same, rfl, (fun s h => by cases h), by rw [List.append_nil]⟩ (fun i H3 hi hP => ?_) (fun H3 hP => ?_)
    · obtain ⟨ps, ks, b3, z3, o3, o3L, hpl, lp, okp, hL, lk, okk, pm0⟩ := hP
      refine ⟨rfl, yesT ⟨_, rfl, .inl ⟨rfl, _, SqL.of hpl⟩, _, rfl, _, rfl, pl, _, rfl, .inl (.of hpl), p, _, rfl, z3, ?_, ?_, fun H4 r4 b4 z4 r40 r41 => ?_⟩⟩
      · rw [List.length_map]
        omega
      · rw [List.length_map]
        exact wide8 (by omega) (by omega)
      · rw [List.length_map] at r41
        have lt : r4.toNat < ps.length := by omega
        have h4 : H4 pl = some (.lst (ps.map V.str)) := b4.but _ _ n1 hpl
        have hL4 : H4 L = some (.lst (ks.map V.str)) := b4.but _ _ nLs hL
        have o4 := b4.off _ _ hpl o3
        have o4L := b4.off _ _ hL o3L
        have ek : (ps.map V.str)[r4.toNat]? = some (.str ps[r4.toNat]) := by
          rw [List.getElem?_map, List.getElem?_eq_getElem lt]
          rfl
        have ix : seqIndex? r4 (ps.map V.str).length = some r4.toNat := by
          unfold seqIndex?
          rw [List.length_map]
          have e1 : ¬ r4 < 0 := by omega
          simp only [e1, if_false]
          rw [if_pos]
          simp
          omega
        refine ⟨pl, _, r4, r4.toNat, _, rfl, rfl, h4, by omega, by omega, ix, ek, ks.map V.str, ?_, ?_, ps.eraseIdx r4.toNat, ks ++ [ps[r4.toNat]], ?_, ?_, ?_, ?_, ?_, ?_, ?_, ?_, ?_, ?_, ?_⟩
        · rw [upd_ne nLp]
          exact hL4
        · rw [List.length_map]
          exact small (by omega)
        · exact ((b3.trans b4).grow npl o4).grow nLH (o4L.upd n1)
        · exact (z4.upd o4).upd (o4L.upd n1)
        · exact (o4.upd n1).upd nLs
        · exact (o4L.upd n1).upd nLs
        · rw [upd_ne nLp.symm, upd_same, erase_map]
        · rw [List.length_eraseIdx_of_lt lt]
          omega
        · intro s hs
          exact okp s (List.mem_of_mem_eraseIdx hs)
        · rw [upd_same, List.map_append]
          rfl
        · rw [List.length_append, lk]
          rfl
        · intro s hs
          rcases List.mem_append.mp hs with h | h
          · exact okk s h
          · rw [List.mem_singleton.mp h]
            exact okp _ (List.getElem_mem lt)
        · refine List.Perm.trans ?_ pm0
          have h1 := erase_permR ps r4.toNat lt
          refine List.Perm.trans ?_ (h1.append_right ks)
          rw [← List.append_assoc]
          exact List.perm_append_singleton ..
    · obtain ⟨ps, ks, b3, z3, o3, o3L, hpl, lp, okp, hL, lk, okk, pm0⟩ := hP
      refine ⟨L, ks, rfl, .of hL, by omega, fun ks' l pm so nl => ?_⟩
      have nlp := z3.ne nl
      exact q _ l ks' (b3.trans (RB.of (same_upd nl))) (z3.same (same_upd nl)) (b3.free z3 nl) upd_same ((z3.off nl).upd nlp) (by rw [pm.length_eq]; omega) (fun s hs => okk s (pm.mem_iff.mp hs)) ⟨pm.nodup_iff.mpr (List.nodup_append.mp (pm0.nodup_iff.mpr thirteen_nd)).2.1, so, fun z => thirteen_no (pm0.mem_iff.mp (List.mem_append.mpr (.inr (pm.mem_iff.mp z))))⟩
/-! _law_state: slots 0:reel 1:names 2:most 3:count -/
abbrev s_law_state : Stmt := topS 44
theorem sc_law_state : FnScope ["reel", "names", "most", "count"] ["reel", "names", "most"] (defScope s_law_state) := ⟨rfl, rfl, rfl, by decide +kernel, rfl, by decide +kernel, by decide +kernel⟩
def sp_law_state : Sp := fun vs H Q _ => ∃ (p l : Addr) (ks : List Str) (m : Int), vs = [.ref p, .ref l, .int m] ∧ Reel H p ∧ H l = some (.lst (ks.map V.str)) ∧ 0 < ks.length ∧ ks.length ≤ 1000 ∧ (∀ s ∈ ks, KindOk s) ∧ 0 ≤ m ∧ m.natAbs < 2 ^ 7999 ∧ ∀ H' v st, RB p H H' → Reel H' p → StV H' v st → StOk st → (∀ r, st = some r → r.2 ≤ m) → Q v H'
theorem ok_law_state (D : Df K mg "_law_state" s_law_state) (T : Tx mg) (G_law_draw : Has P w K mg base 1 "_law_draw" ["reel", "many"] sp_law_draw) : Has P w K mg base 2 "_law_state" ["reel", "names", "most"] sp_law_state := by
  refine has_of D sc_law_state (fun _ _ _ _ _ _ us hl => match us, hl with | [_, _, _], _ => rfl) (fun vs H Q E h => ?_) (fun f cdv A outer s₀ H vs Q E hr h => ?_)
  · obtain ⟨_, _, _, _, rfl, _⟩ := h
    rfl
  · obtain ⟨p, l, ks, m, rfl, z, hl, k1, k2, okk, m0, m2, q⟩ := h
    have mw : (m + 1).natAbs < 2 ^ 8000 := by
      rw [show (8000 : Nat) = 7999 + 1 from rfl, Nat.pow_succ]
      omega
    refine ⟨_, (pss_cons (ps_set (i := 3) sc_law_state.nd rfl (by first | exact Or.inl rfl | exact Or.inr rfl) (pe_callH G_law_draw (hr.mono (by omega)) (by rfl) (pa_cons (pv 0) (pa_cons (pe_op op_add (pv 2) pe_int) pa_nil))))
    (pss_one (ps_ret (pe_ifExp (pt_cmpR op_gt (pv 3) pe_int (nomark _)) (pe_tup (pa_cons (pe_ix ix_list (pv 1) (pe_callH G_law_draw (hr.mono (by omega)) (by rfl) (pa_cons (pv 0) (pa_cons (pe_callB call_len_seq (by rfl) T.n_len (by decide +kernel) (pa_cons (pv 1) pa_nil)) pa_nil))) (fun _ _ => rfl)) (pa_cons (pv 3) pa_nil))) pe_non)))), ?_⟩
    refine ⟨_, rfl, _, rfl, _, _, rfl, rfl, p, _, rfl, z, (by show 1 ≤ m + 1; omega), mw, fun H1 r b1 z1 r0 r1 => ?_⟩
    have r1 : r < m + 1 := r1
    have hl1 := b1.strs z hl
    refine ⟨_, rfl, _, _, rfl, rfl, _, rfl, ite2 (fun e => ?_) (fun e => ?_)⟩
    · have e : 0 < r := of_decide_eq_true e
      refine ⟨_, rfl, _, rfl, _, rfl, l, _, rfl, .inl (.of hl1), p, _, rfl, z1, ?_, ?_, fun H2 r2 b2 z2 r20 r21 => ?_⟩
      · rw [List.length_map]
        omega
      · rw [List.length_map]
        exact wide8 (by omega) (by omega)
      rw [List.length_map] at r21
      have lt : r2.toNat < ks.length := by omega
      have ek : (ks.map V.str)[r2.toNat]? = some (.str ks[r2.toNat]) := by
        rw [List.getElem?_map, List.getElem?_eq_getElem lt]
        rfl
      have kk : KindOk ks[r2.toNat] := okk _ (List.getElem_mem lt)
      generalize ks[r2.toNat] = kd at ek kk
      refine ⟨l, _, r2, _, rfl, rfl, .of (b2.strs z1 hl1), atI_ofR r20 ek, _, rfl, (by show 2 ≤ sizeLine; decide), fun t nt => ?_⟩
      refine q _ _ (some (kd, r)) ((b1.trans b2).trans (RB.of (same_upd nt))) (z2.same (same_upd nt)) ⟨t, rfl, upd_same⟩ (fun x h => ?_) (fun x h => ?_)
      · cases h
        exact ⟨kk, by show 1 ≤ r; omega⟩
      · cases h
        show r ≤ m
        omega
    · exact q _ _ none b1 z1 rfl (fun x h => by cases h) (fun x h => by cases h)
/-! _law_step: slots 0:state 1:kind 2:count 3:left -/
abbrev s_law_step : Stmt := topS 45
theorem sc_law_step : FnScope ["state", "kind", "count", "left"] ["state", "kind", "count"] (defScope s_law_step) := ⟨rfl, rfl, rfl, by decide +kernel, rfl, by decide +kernel, by decide +kernel⟩
def sp_law_step : Sp := fun vs H Q _ => ∃ (v : V) (st : Option Run) (k : Str) (c : Int), vs = [v, .str k, .int c] ∧ StV H v st ∧ 1 ≤ c ∧ ∀ H' v', Same H H' → StV H' v' (stepR st k c) → Q v' H'
theorem ok_law_step (D : Df K mg "_law_step" s_law_step) : Has P w K mg base 1 "_law_step" ["state", "kind", "count"] sp_law_step := by
  refine has_of D sc_law_step (fun _ _ _ _ _ _ us hl => match us, hl with | [_, _, _], _ => rfl) (fun vs H Q E h => ?_) (fun f cdv A outer s₀ H vs Q E hr h => ?_)
  · obtain ⟨_, _, _, _, rfl, _⟩ := h
    rfl
  · obtain ⟨v, st, k, c, rfl, hv, c1, q⟩ := h
    refine ⟨_, (pss_cons (ps_if (PW.pt (pw_or (pt_cmpR op_isN (pv 0) pe_non (nomark _)) (pw_or1 (pt_cmpR op_eq (pe_ix ix_tup (pv 0) pe_int (fun _ _ => rfl)) (pv 1) (nomark _))))) (pss_one (ps_ret (pe_tup (pa_cons (pv 1) (pa_cons (pe_op op_add (pv 2) (pe_ifExp (pt_cmpR op_isN (pv 0) pe_non (nomark _)) pe_int (pe_ix ix_tup (pv 0) pe_int (fun _ _ => rfl)))) pa_nil))))) pss_nil)
    (pss_cons (ps_set (i := 3) sc_law_step.nd rfl (by first | exact Or.inl rfl | exact Or.inr rfl) (pe_op op_sub (pe_ix ix_tup (pv 0) pe_int (fun _ _ => rfl)) (pv 2)))
    (pss_cons (ps_if (pt_cmpR op_eq (pv 3) pe_int (nomark _)) (pss_one (ps_ret pe_non)) pss_nil)
    (pss_one (ps_ret (pe_ifExp (pt_cmpR op_gt (pv 3) pe_int (nomark _)) (pe_tup (pa_cons (pe_ix ix_tup (pv 0) pe_int (fun _ _ => rfl)) (pa_cons (pv 3) pa_nil))) (pe_tup (pa_cons (pv 1) (pa_cons (pe_op op_sub pe_int (pv 3)) pa_nil))))))))), ?_⟩
    cases st with
    | none =>
      obtain rfl := hv
      refine ⟨_, rfl, rfl, _, rfl, iteP rfl (iteT ?_)⟩
      refine ⟨_, rfl, _, rfl, _, rfl, rfl, _, rfl, iteP rfl ⟨_, _, rfl, rfl, (by show 2 ≤ sizeLine; decide), fun t nt => q _ _ (same_upd nt) ⟨t, rfl, ?_⟩⟩⟩
      rw [upd_same]
      show some (HO.tup [V.str k, .int (c + 0)]) = some (.tup [.str k, .int c])
      rw [Int.add_zero]
    | some r =>
      obtain ⟨t, rfl, ht⟩ := hv
      refine ⟨_, rfl, rfl, _, rfl, iteN rfl ⟨_, rfl, t, _, 0, _, rfl, rfl, .of ht, at0, _, rfl, rfl, _, rfl, ite2 (fun e => ?_) (fun e => ?_)⟩⟩
      · have e : r.1 = k := V.str.inj (of_decide_eq_true e)
        refine ⟨_, rfl, _, rfl, _, rfl, rfl, _, rfl, iteN rfl ⟨_, rfl, t, _, 1, _, rfl, rfl, .of ht, at1, _, _, rfl, rfl, (by show 2 ≤ sizeLine; decide), fun u nu => q _ _ (same_upd nu) ?_⟩⟩
        rw [show stepR (some r) k c = some (k, r.2 + c) from if_pos e, Int.add_comm]
        exact ⟨u, rfl, upd_same⟩
      · have e : r.1 ≠ k := fun z => e (decide_eq_true (by show V.str r.1 = V.str k; rw [z]))
        have es : stepR (some r) k c = if 0 < r.2 - c then some (r.1, r.2 - c) else if r.2 - c = 0 then none else some (k, -(r.2 - c)) := if_neg e
        refine ⟨_, rfl, t, _, 1, _, rfl, rfl, .of ht, at1, _, rfl, _, _, rfl, rfl, ?_⟩
        by_cases e0 : r.2 - c = 0
        · refine ⟨_, rfl, rfl, _, rfl, iteP (decide_eq_true (by show V.int (r.2 - c) = V.int 0; rw [e0])) (q _ _ (Same.refl _) ?_)⟩
          rw [es, if_neg (by omega), if_pos e0]
          rfl
        · refine ⟨_, rfl, rfl, _, rfl, iteN (decide_eq_false fun z => e0 (V.int.inj z)) ?_⟩
          by_cases e1 : 0 < r.2 - c
          · refine ⟨_, rfl, _, _, rfl, rfl, _, rfl, iteP (decide_eq_true e1) ⟨_, rfl, t, _, 0, _, rfl, rfl, .of ht, at0, _, rfl, (by show 2 ≤ sizeLine; decide), fun u nu => q _ _ (same_upd nu) ?_⟩⟩
            rw [es, if_pos e1]
            exact ⟨u, rfl, upd_same⟩
          · refine ⟨_, rfl, _, _, rfl, rfl, _, rfl, iteN (decide_eq_false e1) ⟨_, rfl, _, rfl, _, _, rfl, rfl, (by show 2 ≤ sizeLine; decide), fun u nu => q _ _ (same_upd nu) ?_⟩⟩
            rw [es, if_neg e1, if_neg e0, show -(r.2 - c) = 0 - (r.2 - c) by omega]
            exact ⟨u, rfl, upd_same⟩
end
end UP

set_option Elab.async false
set_option linter.all false
set_option maxRecDepth 100000
set_option maxHeartbeats 4000000
namespace UP
open PySem PySem.Spec PyProof.Rows L2
def sp_noneR : Sp := fun _ _ _ _ => False
theorem simR_run {H : Hp} {p : Addr} {v : V} {r : Run} {n : Nat} (z : Reel H p) (h : RunV H v r) : Sim (· ≠ p) H (n + 1) v (dP r) := by
  obtain ⟨t, rfl, h⟩ := h
  obtain ⟨_, _, _, _, _, _, hs, _⟩ := z
  exact .inr ⟨t, _, _, rfl, ne_of h hs (by intro q; cases q), .inr h, rfl, sim_pair r, Nat.le_of_ble_eq_true rfl⟩
theorem simR_st {H : Hp} {p : Addr} {v : V} {st : Option Run} (z : Reel H p) (h : StV H v st) : Sim (· ≠ p) H 2 v (dSt st) := by
  cases st with
  | none =>
    cases h
    exact .inl (.inl ⟨rfl, rfl⟩)
  | some r => exact simR_run z h
section
variable {P : Program} {w : World} {K : PySem.W.Frag} {mg : Str → Option Value} {base : Heap}
end
end UP

set_option Elab.async false
set_option linter.all false
set_option maxRecDepth 100000
set_option maxHeartbeats 4000000
namespace UP
open PySem PySem.Spec PyProof.Rows L2
/-! ### distances -/
def kdV : Option Run → V
  | none => .non
  | some r => .str r.1
def distR (a b : Option Run) : Int := if kdV a = kdV b then (if numR a - numR b < 0 then -(numR a - numR b) else numR a - numR b) else numR a + numR b
theorem dist_ss (r s : Run) : distR (some r) (some s) = if r.1 = s.1 then (if r.2 - s.2 < 0 then -(r.2 - s.2) else r.2 - s.2) else r.2 + s.2 := by
  unfold distR
  by_cases e : r.1 = s.1
  · rw [if_pos e, if_pos (by show V.str r.1 = V.str s.1; rw [e])]
    rfl
  · rw [if_neg e, if_neg (show ¬ kdV (some r) = kdV (some s) from fun z => e (V.str.inj z))]
    rfl
theorem dist_nn : distR none none = 0 := rfl
theorem dist_ns (r : Run) : distR none (some r) = r.2 := by
  unfold distR
  rw [if_neg (by intro z; cases z)]
  show 0 + r.2 = r.2
  omega
theorem dist_sn (r : Run) : distR (some r) none = r.2 := by
  unfold distR
  rw [if_neg (by intro z; cases z)]
  show r.2 + 0 = r.2
  omega
theorem dist_comm (a b : Option Run) : distR a b = distR b a := by
  cases a with
  | none =>
    cases b with
    | none => rfl
    | some s => rw [dist_ns, dist_sn]
  | some r =>
    cases b with
    | none => rw [dist_ns, dist_sn]
    | some s =>
      rw [dist_ss, dist_ss]
      by_cases e : r.1 = s.1
      · rw [if_pos e, if_pos e.symm]
        split <;> split <;> omega
      · rw [if_neg e, if_neg fun z => e z.symm]
        omega
theorem dist_zero {a b : Option Run} (pa : PosO a) (pb : PosO b) : distR a b = 0 ↔ a = b := by
  cases a with
  | none =>
    cases b with
    | none => exact ⟨fun _ => rfl, fun _ => rfl⟩
    | some s =>
      have := pb s rfl
      rw [dist_ns]
      exact ⟨fun z => by omega, fun z => by cases z⟩
  | some r =>
    have h1 := pa r rfl
    cases b with
    | none =>
      rw [dist_sn]
      exact ⟨fun z => by omega, fun z => by cases z⟩
    | some s =>
      have h2 := pb s rfl
      rw [dist_ss]
      constructor
      · intro z
        by_cases e : r.1 = s.1
        · rw [if_pos e] at z
          have : r.2 = s.2 := by
            split at z <;> omega
          rw [show r = s from Prod.ext e this]
        · rw [if_neg e] at z
          omega
      · intro z
        cases z
        rw [if_pos rfl]
        split <;> omega
theorem dist_tri {a b c : Option Run} (pa : PosO a) (pb : PosO b) (pc : PosO c) : ¬ distR a c + distR c b < distR a b := by
  cases a with
  | none =>
    cases b with
    | none =>
      cases c with
      | none => rw [dist_nn]; omega
      | some t =>
        have := pc t rfl
        rw [dist_nn, dist_ns, dist_sn]
        omega
    | some s =>
      have h2 := pb s rfl
      cases c with
      | none => rw [dist_nn, dist_ns]; omega
      | some t =>
        have := pc t rfl
        rw [dist_ns, dist_ss, dist_ns]
        split
        · split <;> omega
        · omega
  | some r =>
    have h1 := pa r rfl
    cases b with
    | none =>
      cases c with
      | none => rw [dist_nn, dist_sn]; omega
      | some t =>
        have := pc t rfl
        rw [dist_sn, dist_sn, dist_ss]
        split
        · split <;> omega
        · omega
    | some s =>
      have h2 := pb s rfl
      cases c with
      | none =>
        rw [dist_sn, dist_ns, dist_ss]
        split
        · split <;> omega
        · omega
      | some t =>
        have h3 := pc t rfl
        rw [dist_ss, dist_ss, dist_ss]
        by_cases e1 : r.1 = t.1
        · by_cases e2 : t.1 = s.1
          · rw [if_pos e1, if_pos e2, if_pos (e1.trans e2)]
            split <;> split <;> split <;> omega
          · rw [if_pos e1, if_neg e2, if_neg (fun z => e2 (e1.symm.trans z))]
            split <;> omega
        · by_cases e2 : t.1 = s.1
          · rw [if_neg e1, if_pos e2, if_neg (show ¬ r.1 = s.1 from fun z => e1 (z.trans e2.symm))]
            split <;> omega
          · rw [if_neg e1, if_neg e2]
            split
            · split <;> omega
            · omega
/-- one arrival: the distance stays or falls by 2 -/
theorem dist_step {a b : Option Run} {k : Str} (pa : PosO a) (pb : PosO b) : distR (stepR a k 1) (stepR b k 1) = distR a b ∨ distR (stepR a k 1) (stepR b k 1) = distR a b - 2 := by
  have sn : stepR none k 1 = some (k, 1) := rfl
  have sp : ∀ r : Run, 1 ≤ r.2 → (r.1 = k ∧ stepR (some r) k 1 = some (k, r.2 + 1)) ∨ (r.1 ≠ k ∧ 2 ≤ r.2 ∧ stepR (some r) k 1 = some (r.1, r.2 - 1)) ∨ (r.1 ≠ k ∧ r.2 = 1 ∧ stepR (some r) k 1 = none) := by
    intro r h
    by_cases e : r.1 = k
    · exact .inl ⟨e, if_pos e⟩
    · have es : stepR (some r) k 1 = if 0 < r.2 - 1 then some (r.1, r.2 - 1) else if r.2 - 1 = 0 then none else some (k, -(r.2 - 1)) := if_neg e
      by_cases g : 2 ≤ r.2
      · rw [if_pos (by omega)] at es
        exact .inr (.inl ⟨e, g, es⟩)
      · rw [if_neg (by omega), if_pos (by omega)] at es
        exact .inr (.inr ⟨e, by omega, es⟩)
  cases a with
  | none =>
    cases b with
    | none =>
      rw [sn, dist_ss, if_pos rfl, dist_nn]
      left
      split <;> omega
    | some s =>
      have h2 := pb s rfl
      rcases sp s h2 with ⟨e, es⟩ | ⟨e, g, es⟩ | ⟨e, g, es⟩
      · rw [sn, es, dist_ss, dist_ns, if_pos rfl]
        left
        show (if 1 - (s.2 + 1) < 0 then -(1 - (s.2 + 1)) else 1 - (s.2 + 1)) = s.2
        split <;> omega
      · rw [sn, es, dist_ss, dist_ns, if_neg fun z => e z.symm]
        left
        show 1 + (s.2 - 1) = s.2
        omega
      · rw [sn, es, dist_sn, dist_ns]
        left
        show 1 = s.2
        omega
  | some r =>
    have h1 := pa r rfl
    cases b with
    | none =>
      rcases sp r h1 with ⟨e, es⟩ | ⟨e, g, es⟩ | ⟨e, g, es⟩
      · rw [sn, es, dist_ss, dist_sn, if_pos rfl]
        left
        show (if r.2 + 1 - 1 < 0 then -(r.2 + 1 - 1) else r.2 + 1 - 1) = r.2
        split <;> omega
      · rw [sn, es, dist_ss, dist_sn, if_neg e]
        left
        show r.2 - 1 + 1 = r.2
        omega
      · rw [sn, es, dist_ns, dist_sn]
        left
        show 1 = r.2
        omega
    | some s =>
      have h2 := pb s rfl
      rw [dist_ss r s]
      rcases sp r h1 with ⟨e, es⟩ | ⟨e, g, es⟩ | ⟨e, g, es⟩
      · rcases sp s h2 with ⟨f, fs⟩ | ⟨f, j, fs⟩ | ⟨f, j, fs⟩
        · rw [es, fs, dist_ss, if_pos rfl, if_pos (e.trans f.symm)]
          left
          show (if r.2 + 1 - (s.2 + 1) < 0 then -(r.2 + 1 - (s.2 + 1)) else r.2 + 1 - (s.2 + 1)) = _
          split <;> split <;> omega
        · rw [es, fs, dist_ss, if_neg (fun z => f z.symm), if_neg (fun z => f (z.symm.trans e))]
          left
          show r.2 + 1 + (s.2 - 1) = _
          omega
        · rw [es, fs, dist_sn, if_neg (fun z => f (z.symm.trans e))]
          left
          show r.2 + 1 = _
          omega
      · rcases sp s h2 with ⟨f, fs⟩ | ⟨f, j, fs⟩ | ⟨f, j, fs⟩
        · rw [es, fs, dist_ss, if_neg e, if_neg (fun z => e (z.trans f))]
          left
          show r.2 - 1 + (s.2 + 1) = _
          omega
        · rw [es, fs, dist_ss]
          show (if r.1 = s.1 then (if r.2 - 1 - (s.2 - 1) < 0 then -(r.2 - 1 - (s.2 - 1)) else r.2 - 1 - (s.2 - 1)) else r.2 - 1 + (s.2 - 1)) = _ ∨ (if r.1 = s.1 then (if r.2 - 1 - (s.2 - 1) < 0 then -(r.2 - 1 - (s.2 - 1)) else r.2 - 1 - (s.2 - 1)) else r.2 - 1 + (s.2 - 1)) = _
          by_cases u : r.1 = s.1
          · rw [if_pos u, if_pos u]
            left
            split <;> split <;> omega
          · rw [if_neg u, if_neg u]
            right
            omega
        · rw [es, fs, dist_sn]
          show r.2 - 1 = _ ∨ r.2 - 1 = _
          by_cases u : r.1 = s.1
          · rw [if_pos u]
            left
            split <;> omega
          · rw [if_neg u]
            right
            omega
      · rcases sp s h2 with ⟨f, fs⟩ | ⟨f, j, fs⟩ | ⟨f, j, fs⟩
        · rw [es, fs, dist_ns, if_neg (fun z => e (z.trans f))]
          left
          show s.2 + 1 = _
          omega
        · rw [es, fs, dist_ns]
          show s.2 - 1 = _ ∨ s.2 - 1 = _
          by_cases u : r.1 = s.1
          · rw [if_pos u]
            left
            split <;> omega
          · rw [if_neg u]
            right
            omega
        · rw [es, fs, dist_nn]
          by_cases u : r.1 = s.1
          · rw [if_pos u]
            left
            split <;> omega
          · rw [if_neg u]
            right
            omega
section
variable {P : Program} {w : World} {K : PySem.W.Frag} {mg : Str → Option Value} {base : Heap}
end
end UP

set_option Elab.async false
set_option linter.all false
set_option maxRecDepth 100000
set_option maxHeartbeats 4000000
namespace UP
open PySem PySem.Spec PyProof.Rows L2
theorem RB.rung {p : Addr} {H H' : Hp} {v : V} {r : Run} (b : RB p H H') (z : Reel H p) (h : RunG H v r) : RunG H' v r := by
  obtain ⟨t, e, h⟩ := h
  obtain ⟨_, _, _, _, _, _, hp, _⟩ := z
  refine ⟨t, e, h.elim (fun y => .inl (b.but _ _ (ne_of y hp (by intro q; cases q)) y)) (fun y => .inr (b.but _ _ (ne_of y hp (by intro q; cases q)) y))⟩
theorem RB.stg {p : Addr} {H H' : Hp} {v : V} {st : Option Run} (b : RB p H H') (z : Reel H p) (h : StG H v st) : StG H' v st := by
  cases st with
  | none => exact h
  | some r => exact b.rung z h
theorem stOk_step {a : Option Run} {k : Str} (h : StOk a) (kk : KindOk k) : StOk (stepR a k 1) := by
  intro r e
  have p := stepR_pos (k := k) (c := 1) (fun r e => (h r e).2) (by decide) r e
  refine ⟨?_, p⟩
  cases a with
  | none =>
    cases e
    exact kk
  | some s =>
    have hs := h s rfl
    by_cases e1 : s.1 = k
    · rw [show stepR (some s) k 1 = some (k, s.2 + 1) from if_pos e1] at e
      cases e
      exact kk
    · rw [show stepR (some s) k 1 = if 0 < s.2 - 1 then some (s.1, s.2 - 1) else if s.2 - 1 = 0 then none else some (k, -(s.2 - 1)) from if_neg e1] at e
      split at e
      · cases e
        exact hs.1
      · split at e
        · cases e
        · cases e
          exact kk
def dOt : Option Run → PyData
  | none => .none
  | some r => dRun r
theorem dp_o {K : PySem.W.Frag} {H : Hp} {v : V} {st : Option Run} (h : StV H v st) : Dp K H v (dOt st) := by
  cases st with
  | none =>
    cases h
    exact .non
  | some r => exact dp_run h
theorem shaped_o {st : Option Run} (h : StOk st) : SeqAt.shaped (dOt st) = true := by
  cases st with
  | none => decide
  | some r => exact shaped_run (h r rfl).1
theorem eqv_o (a b : Option Run) : PyData.eqv (dOt a) (dOt b) = decide (a = b) := by
  cases a with
  | none =>
    cases b with
    | none => simp [dOt, PyData.eqv]
    | some s => simp [dOt, dRun, PyData.eqv]
  | some r =>
    cases b with
    | none => simp [dOt, dRun, PyData.eqv]
    | some s =>
      obtain ⟨r1, r2⟩ := r
      obtain ⟨s1, s2⟩ := s
      simp [dOt, dRun, PyData.eqv, PyData.eqvAll]
      rw [Bool.eq_iff_iff]
      simp
theorem dps_stN {K : PySem.W.Frag} {H : Hp} {v : V} {st : Option Run} (h : StG H v st) (k : ∀ r, st = some r → KindOk r.1 ∧ r.2.natAbs < 10 ^ 60) : ∃ d, DpS K H v d ∧ Nice 404 1 d := by
  cases st with
  | none =>
    cases h
    exact ⟨.none, fun _ _ => .non, nice_none.mono (by decide) (by decide)⟩
  | some r => exact dps_run (K := K) h (k r rfl).1 (k r rfl).2
theorem nice_il {w : Nat} {l : List Int} (h : ∀ x ∈ l, x.natAbs < 10 ^ 60) (hw : 202 * l.length ≤ w) : Nice w 1 (.list (l.map PyData.int)) := by
  have := nice_list (w := 201) (n := 0) (ds := l.map PyData.int) fun d hd => by
    obtain ⟨x, hx, rfl⟩ := List.mem_map.mp hd
    exact nice_int (h x hx)
  exact this.mono (by rw [List.length_map]; omega) (Nat.le_refl _)
theorem dist_bd {a b : Option Run} (pa : PosO a) (pb : PosO b) {m : Int} (ha : ∀ r, a = some r → r.2 ≤ m) (hb : ∀ r, b = some r → r.2 ≤ m) (m0 : 0 ≤ m) : 0 ≤ distR a b ∧ distR a b ≤ 2 * m := by
  cases a with
  | none =>
    cases b with
    | none => rw [dist_nn]; omega
    | some s =>
      have := pb s rfl
      have := hb s rfl
      rw [dist_ns]; omega
  | some r =>
    have h1 := pa r rfl
    have h2 := ha r rfl
    cases b with
    | none => rw [dist_sn]; omega
    | some s =>
      have := pb s rfl
      have := hb s rfl
      rw [dist_ss]
      split
      · split <;> omega
      · omega
theorem p39 : (10 : Int) ^ ((39 : Int).toNat) = 1000000000000000000000000000000000000000 := by decide +kernel
end UP

set_option Elab.async false
set_option linter.all false
set_option maxRecDepth 100000
set_option maxHeartbeats 4000000
namespace UP
open PySem PySem.Spec PyProof.Rows L2
/-! ### meetings -/
def MW (a b : Option Run) (k : Str) (c : Int) : Prop := kdV a ≠ .str k ∧ kdV b ≠ .str k ∧ numR a = numR b ∧ numR b ≤ c
instance (a b : Option Run) (k : Str) (c : Int) : Decidable (MW a b k c) := by
  unfold MW
  infer_instance
theorem MW.comm {a b : Option Run} {k : Str} {c : Int} : MW a b k c ↔ MW b a k c := by
  unfold MW
  exact ⟨fun h => ⟨h.2.1, h.1, h.2.2.1.symm, by omega⟩, fun h => ⟨h.2.1, h.1, h.2.2.1.symm, by omega⟩⟩
theorem mw_nn {k : Str} {c : Int} : MW none none k c ↔ 0 ≤ c := ⟨fun h => h.2.2.2, fun h => ⟨by (intro z; cases z), by (intro z; cases z), rfl, h⟩⟩
theorem mw_ns {s : Run} {k : Str} {c : Int} : MW none (some s) k c ↔ s.1 ≠ k ∧ 0 = s.2 ∧ s.2 ≤ c := ⟨fun h => ⟨fun z => h.2.1 (by show V.str s.1 = V.str k; rw [z]), h.2.2.1, h.2.2.2⟩, fun h => ⟨by (intro z; cases z), fun z => h.1 (V.str.inj z), h.2.1, h.2.2⟩⟩
theorem mw_sn {s : Run} {k : Str} {c : Int} : MW (some s) none k c ↔ s.1 ≠ k ∧ s.2 = 0 ∧ 0 ≤ c := ⟨fun h => ⟨fun z => h.1 (by show V.str s.1 = V.str k; rw [z]), h.2.2.1, h.2.2.2⟩, fun h => ⟨fun z => h.1 (V.str.inj z), by (intro z; cases z), h.2.1, h.2.2⟩⟩
theorem mw_ss {r s : Run} {k : Str} {c : Int} : MW (some r) (some s) k c ↔ r.1 ≠ k ∧ s.1 ≠ k ∧ r.2 = s.2 ∧ s.2 ≤ c := ⟨fun h => ⟨fun z => h.1 (by show V.str r.1 = V.str k; rw [z]), fun z => h.2.1 (by show V.str s.1 = V.str k; rw [z]), h.2.2.1, h.2.2.2⟩, fun h => ⟨fun z => h.1 (V.str.inj z), fun z => h.2.1 (V.str.inj z), h.2.2⟩⟩
theorem step_cases {r : Run} {k : Str} {c : Int} : (r.1 = k ∧ stepR (some r) k c = some (k, r.2 + c)) ∨ (r.1 ≠ k ∧ c < r.2 ∧ stepR (some r) k c = some (r.1, r.2 - c)) ∨ (r.1 ≠ k ∧ r.2 = c ∧ stepR (some r) k c = none) ∨ (r.1 ≠ k ∧ r.2 < c ∧ stepR (some r) k c = some (k, c - r.2)) := by
  by_cases e : r.1 = k
  · exact .inl ⟨e, if_pos e⟩
  · have es : stepR (some r) k c = if 0 < r.2 - c then some (r.1, r.2 - c) else if r.2 - c = 0 then none else some (k, -(r.2 - c)) := if_neg e
    by_cases g : c < r.2
    · rw [if_pos (by omega)] at es
      exact .inr (.inl ⟨e, g, es⟩)
    · by_cases h : r.2 = c
      · rw [if_neg (by omega), if_pos (by omega)] at es
        exact .inr (.inr (.inl ⟨e, h, es⟩))
      · rw [if_neg (by omega), if_neg (by omega), show -(r.2 - c) = c - r.2 by omega] at es
        exact .inr (.inr (.inr ⟨e, by omega, es⟩))
theorem some_pair {a b : Str} {m n : Int} : (some (a, m) : Option Run) = some (b, n) ↔ a = b ∧ m = n := ⟨fun h => by cases h; exact ⟨rfl, rfl⟩, fun h => by rw [h.1, h.2]⟩
/-- within a run two different states become equal only together with the last of both -/
theorem meet_iff {a b : Option Run} {k : Str} {c : Int} (pa : PosO a) (pb : PosO b) (ne : a ≠ b) (c1 : 1 ≤ c) : stepR a k c = stepR b k c ↔ MW a b k c := by
  cases a with
  | none =>
    cases b with
    | none => exact absurd rfl ne
    | some s =>
      have h2 := pb s rfl
      rw [mw_ns, show stepR none k c = some (k, c) from rfl]
      rcases step_cases (r := s) (k := k) (c := c) with ⟨e, es⟩ | ⟨e, g, es⟩ | ⟨e, g, es⟩ | ⟨e, g, es⟩
      · rw [es, some_pair]
        exact ⟨fun z => (by omega), fun z => by omega⟩
      · rw [es, some_pair]
        exact ⟨fun z => absurd z.1.symm e, fun z => by omega⟩
      · rw [es]
        exact ⟨fun z => (by cases z), fun z => by omega⟩
      · rw [es, some_pair]
        exact ⟨fun z => (by omega), fun z => by omega⟩
  | some r =>
    have h1 := pa r rfl
    cases b with
    | none =>
      rw [mw_sn, show stepR none k c = some (k, c) from rfl]
      rcases step_cases (r := r) (k := k) (c := c) with ⟨e, es⟩ | ⟨e, g, es⟩ | ⟨e, g, es⟩ | ⟨e, g, es⟩
      · rw [es, some_pair]
        exact ⟨fun z => (by omega), fun z => by omega⟩
      · rw [es, some_pair]
        exact ⟨fun z => absurd z.1 e, fun z => by omega⟩
      · rw [es]
        exact ⟨fun z => (by cases z), fun z => by omega⟩
      · rw [es, some_pair]
        exact ⟨fun z => (by omega), fun z => by omega⟩
    | some s =>
      have h2 := pb s rfl
      have ne2 : ¬ (r.1 = s.1 ∧ r.2 = s.2) := fun z => ne (by rw [show r = s from Prod.ext z.1 z.2])
      rw [mw_ss]
      rcases step_cases (r := r) (k := k) (c := c) with ⟨e, es⟩ | ⟨e, g, es⟩ | ⟨e, g, es⟩ | ⟨e, g, es⟩
      · rcases step_cases (r := s) (k := k) (c := c) with ⟨f, fs⟩ | ⟨f, j, fs⟩ | ⟨f, j, fs⟩ | ⟨f, j, fs⟩
        · rw [es, fs, some_pair]
          exact ⟨fun z => absurd ⟨e.trans f.symm, by omega⟩ ne2, fun z => absurd e z.1⟩
        · rw [es, fs, some_pair]
          exact ⟨fun z => absurd z.1.symm f, fun z => absurd e z.1⟩
        · rw [es, fs]
          exact ⟨fun z => (by cases z), fun z => absurd e z.1⟩
        · rw [es, fs, some_pair]
          exact ⟨fun z => (by omega), fun z => absurd e z.1⟩
      · rcases step_cases (r := s) (k := k) (c := c) with ⟨f, fs⟩ | ⟨f, j, fs⟩ | ⟨f, j, fs⟩ | ⟨f, j, fs⟩
        · rw [es, fs, some_pair]
          exact ⟨fun z => absurd z.1 e, fun z => absurd f z.2.1⟩
        · rw [es, fs, some_pair]
          exact ⟨fun z => absurd ⟨z.1, by omega⟩ ne2, fun z => by omega⟩
        · rw [es, fs]
          exact ⟨fun z => (by cases z), fun z => by omega⟩
        · rw [es, fs, some_pair]
          exact ⟨fun z => absurd z.1 e, fun z => by omega⟩
      · rcases step_cases (r := s) (k := k) (c := c) with ⟨f, fs⟩ | ⟨f, j, fs⟩ | ⟨f, j, fs⟩ | ⟨f, j, fs⟩
        · rw [es, fs]
          exact ⟨fun z => (by cases z), fun z => absurd f z.2.1⟩
        · rw [es, fs]
          exact ⟨fun z => (by cases z), fun z => by omega⟩
        · rw [es, fs]
          exact ⟨fun _ => ⟨e, f, by omega, by omega⟩, fun _ => rfl⟩
        · rw [es, fs]
          exact ⟨fun z => (by cases z), fun z => by omega⟩
      · rcases step_cases (r := s) (k := k) (c := c) with ⟨f, fs⟩ | ⟨f, j, fs⟩ | ⟨f, j, fs⟩ | ⟨f, j, fs⟩
        · rw [es, fs, some_pair]
          exact ⟨fun z => (by omega), fun z => absurd f z.2.1⟩
        · rw [es, fs, some_pair]
          exact ⟨fun z => absurd z.1.symm f, fun z => by omega⟩
        · rw [es, fs]
          exact ⟨fun z => (by cases z), fun z => by omega⟩
        · rw [es, fs, some_pair]
          exact ⟨fun z => ⟨e, f, by omega, by omega⟩, fun z => ⟨rfl, by omega⟩⟩
/-- the moment, run by run; the states are different at the beginning -/
def mgR : List Run → Option Run → Option Run → Int → Option Int
  | [], _, _, _ => none
  | r :: t, a, b, s => if MW a b r.1 r.2 then some (s + numR a) else mgR t (stepR a r.1 r.2) (stepR b r.1 r.2) (s + r.2)
def mmR (rs : List Run) (a b : Option Run) : Option Int := if a = b then some 0 else mgR rs a b 0
theorem mg_comm : ∀ (rs : List Run) (a b : Option Run) (s : Int), mgR rs a b s = mgR rs b a s
  | [], _, _, _ => rfl
  | r :: t, a, b, s => by
    show (if MW a b r.1 r.2 then some (s + numR a) else mgR t (stepR a r.1 r.2) (stepR b r.1 r.2) (s + r.2)) = (if MW b a r.1 r.2 then some (s + numR b) else mgR t (stepR b r.1 r.2) (stepR a r.1 r.2) (s + r.2))
    by_cases h : MW a b r.1 r.2
    · rw [if_pos h, if_pos (MW.comm.mp h), h.2.2.1]
    · rw [if_neg h, if_neg fun z => h (MW.comm.mp z), mg_comm t]
theorem mm_comm (rs : List Run) (a b : Option Run) : mmR rs a b = mmR rs b a := by
  unfold mmR
  by_cases h : a = b
  · rw [if_pos h, if_pos h.symm]
  · rw [if_neg h, if_neg fun z => h z.symm, mg_comm]
theorem lenR_nn {rs : List Run} (k : ∀ r ∈ rs, 1 ≤ r.2) : 0 ≤ lenR rs := by
  rw [← len_it rs k]
  exact Int.natCast_nonneg _
theorem num_nn {a : Option Run} (p : PosO a) : 0 ≤ numR a := by
  cases a with
  | none => exact Int.le_refl _
  | some r =>
    have := p r rfl
    show 0 ≤ r.2
    omega
theorem mg_bd : ∀ (rs : List Run) (a b : Option Run) (s m : Int), (∀ r ∈ rs, 1 ≤ r.2) → PosO a → PosO b → mgR rs a b s = some m → s ≤ m ∧ m ≤ s + lenR rs
  | [], _, _, _, _, _, _, _, h => by cases h
  | r :: t, a, b, s, m, k, pa, pb, h => by
    have c1 := k r (List.mem_cons_self ..)
    have kt : ∀ x ∈ t, 1 ≤ x.2 := fun x hx => k x (List.mem_cons_of_mem _ hx)
    have lt : 0 ≤ lenR t := lenR_nn kt
    have h : (if MW a b r.1 r.2 then some (s + numR a) else mgR t (stepR a r.1 r.2) (stepR b r.1 r.2) (s + r.2)) = some m := h
    rw [lenR_cons]
    by_cases g : MW a b r.1 r.2
    · rw [if_pos g] at h
      have h := Option.some.inj h
      have := num_nn pa
      have := g.2.2
      omega
    · rw [if_neg g] at h
      have := mg_bd t _ _ _ m kt (stepR_pos pa c1) (stepR_pos pb c1) h
      omega
theorem mg_end : ∀ (rs : List Run) (a b : Option Run) (s m : Int), (∀ r ∈ rs, 1 ≤ r.2) → PosO a → PosO b → a ≠ b → mgR rs a b s = some m → stR rs a = stR rs b
  | [], _, _, _, _, _, _, _, _, h => by cases h
  | r :: t, a, b, s, m, k, pa, pb, ne, h => by
    have c1 := k r (List.mem_cons_self ..)
    have kt : ∀ x ∈ t, 1 ≤ x.2 := fun x hx => k x (List.mem_cons_of_mem _ hx)
    have h : (if MW a b r.1 r.2 then some (s + numR a) else mgR t (stepR a r.1 r.2) (stepR b r.1 r.2) (s + r.2)) = some m := h
    rw [stR_cons, stR_cons]
    by_cases g : MW a b r.1 r.2
    · rw [(meet_iff pa pb ne c1).mpr g]
    · rw [if_neg g] at h
      exact mg_end t _ _ _ m kt (stepR_pos pa c1) (stepR_pos pb c1) (fun z => g ((meet_iff pa pb ne c1).mp z)) h
theorem mm_end {rs : List Run} {a b : Option Run} {m : Int} (k : ∀ r ∈ rs, 1 ≤ r.2) (pa : PosO a) (pb : PosO b) (h : mmR rs a b = some m) : stR rs a = stR rs b := by
  unfold mmR at h
  by_cases e : a = b
  · rw [e]
  · rw [if_neg e] at h
    exact mg_end rs a b 0 m k pa pb e h
theorem mm_bd {rs : List Run} {a b : Option Run} {m : Int} (k : ∀ r ∈ rs, 1 ≤ r.2) (pa : PosO a) (pb : PosO b) (h : mmR rs a b = some m) : 0 ≤ m ∧ m ≤ lenR rs := by
  unfold mmR at h
  by_cases e : a = b
  · rw [if_pos e] at h
    cases h
    exact ⟨Int.le_refl _, lenR_nn k⟩
  · rw [if_neg e] at h
    have := mg_bd rs a b 0 m k pa pb h
    omega
/-- item by item -/
def fewI : List Str → Option Run → Option Run → Int → Option Int
  | [], a, b, m => if a = b then some m else none
  | k :: t, a, b, m => if a = b then some m else fewI t (stepR a k 1) (stepR b k 1) (m + 1)
theorem few_eq {l : List Str} {a : Option Run} {m : Int} : fewI l a a m = some m := by
  cases l with
  | nil => exact if_pos rfl
  | cons k t => exact if_pos rfl
theorem few_run : ∀ (c : Nat) (k : Str) (rest : List Str) (a b : Option Run) (m : Int), PosO a → PosO b → a ≠ b → fewI (List.replicate (c + 1) k ++ rest) a b m = if MW a b k ((c : Int) + 1) then some (m + numR a) else fewI rest (stepR a k ((c : Int) + 1)) (stepR b k ((c : Int) + 1)) (m + ((c : Int) + 1))
  | c, k, rest, a, b, m, pa, pb, ne => by
    have h1 : fewI (List.replicate (c + 1) k ++ rest) a b m = fewI (List.replicate c k ++ rest) (stepR a k 1) (stepR b k 1) (m + 1) := by
      rw [List.replicate_succ]
      exact if_neg ne
    have pa1 := stepR_pos (k := k) (c := 1) pa (by decide)
    have pb1 := stepR_pos (k := k) (c := 1) pb (by decide)
    have i1 := meet_iff (k := k) (c := 1) pa pb ne (by decide)
    rw [h1]
    by_cases e : stepR a k 1 = stepR b k 1
    · have w := i1.mp e
      have w2 : MW a b k ((c : Int) + 1) := ⟨w.1, w.2.1, w.2.2.1, by have := w.2.2.2; omega⟩
      have na : numR a = 1 := by
        have h3 := num_nn pa
        have h4 := w.2.2
        rcases (show numR a = 1 ∨ numR a = 0 by omega) with z | z
        · exact z
        · exfalso
          have an : a = none := by
            cases a with
            | none => rfl
            | some r =>
              have := pa r rfl
              have z : r.2 = 0 := z
              omega
          have bn : b = none := by
            cases b with
            | none => rfl
            | some r =>
              have := pb r rfl
              have z2 : r.2 = numR (some r) := rfl
              omega
          exact ne (an.trans bn.symm)
      rw [e, few_eq, if_pos w2, na]
    · cases c with
      | zero =>
        have w2 : ¬ MW a b k (((0 : Nat) : Int) + 1) := fun z => e (i1.mpr z)
        rw [if_neg w2]
        rfl
      | succ c =>
        have ih := few_run c k rest (stepR a k 1) (stepR b k 1) (m + 1) pa1 pb1 e
        rw [ih]
        have ea := step_step (s := a) (k := k) (c := (c : Int) + 1) pa (by omega)
        have eb := step_step (s := b) (k := k) (c := (c : Int) + 1) pb (by omega)
        have cc : (1 : Int) + ((c : Int) + 1) = (((c + 1 : Nat) : Int) + 1) := by omega
        rw [cc] at ea eb
        have iff1 := meet_iff (k := k) (c := (c : Int) + 1) pa1 pb1 e (by omega)
        have iff2 := meet_iff (k := k) (c := ((c + 1 : Nat) : Int) + 1) pa pb ne (by omega)
        rw [ea, eb] at iff1
        by_cases g : MW a b k (((c + 1 : Nat) : Int) + 1)
        · have g1 := iff1.mp (iff2.mpr g)
          rw [if_pos g, if_pos g1]
          congr 1
          cases a with
          | none =>
            exfalso
            have := g.2.2.1
            cases b with
            | none => exact ne rfl
            | some s =>
              have h2 := pb s rfl
              have : (0 : Int) = s.2 := this
              omega
          | some r =>
            have rk : r.1 ≠ k := fun z => g.1 (by show V.str r.1 = V.str k; rw [z])
            rcases step_cases (r := r) (k := k) (c := 1) with ⟨f, fs⟩ | ⟨f, j, fs⟩ | ⟨f, j, fs⟩ | ⟨f, j, fs⟩
            · exact absurd f rk
            · rw [fs]
              show m + 1 + (r.2 - 1) = m + r.2
              omega
            · exfalso
              have gb := g.2.2.1
              cases b with
              | none =>
                have gb : r.2 = 0 := gb
                omega
              | some s =>
                have sk : s.1 ≠ k := fun z => g.2.1 (by show V.str s.1 = V.str k; rw [z])
                have gb : r.2 = s.2 := gb
                rcases step_cases (r := s) (k := k) (c := 1) with ⟨u, us⟩ | ⟨u, v, us⟩ | ⟨u, v, us⟩ | ⟨u, v, us⟩
                · exact sk u
                · omega
                · exact e (by rw [fs, us])
                · omega
            · have := pa r rfl
              omega
        · have g1 : ¬ MW (stepR a k 1) (stepR b k 1) k ((c : Int) + 1) := fun z => g (iff2.mp (iff1.mpr z))
          rw [if_neg g, if_neg g1, ea, eb, show m + 1 + ((c : Int) + 1) = m + (((c + 1 : Nat) : Int) + 1) by omega]
theorem few_mg : ∀ (rs : List Run) (a b : Option Run) (m : Int), (∀ r ∈ rs, 1 ≤ r.2) → PosO a → PosO b → a ≠ b → fewI (itR rs) a b m = mgR rs a b m
  | [], _, _, _, _, _, _, ne => if_neg ne
  | r :: t, a, b, m, k, pa, pb, ne => by
    have c1 := k r (List.mem_cons_self ..)
    have kt : ∀ x ∈ t, 1 ≤ x.2 := fun x hx => k x (List.mem_cons_of_mem _ hx)
    obtain ⟨c, hc⟩ : ∃ c : Nat, r.2.toNat = c + 1 := ⟨r.2.toNat - 1, by omega⟩
    have er : ((c : Int) + 1) = r.2 := by omega
    have e : itR (r :: t) = List.replicate r.2.toNat r.1 ++ itR t := rfl
    rw [e, hc, few_run c r.1 (itR t) a b m pa pb ne, er]
    show _ = (if MW a b r.1 r.2 then some (m + numR a) else mgR t (stepR a r.1 r.2) (stepR b r.1 r.2) (m + r.2))
    by_cases g : MW a b r.1 r.2
    · rw [if_pos g, if_pos g]
    · rw [if_neg g, if_neg g]
      exact few_mg t _ _ _ kt (stepR_pos pa c1) (stepR_pos pb c1) (fun z => g ((meet_iff pa pb ne c1).mp z))
theorem few_mm {rs : List Run} {a b : Option Run} (k : ∀ r ∈ rs, 1 ≤ r.2) (pa : PosO a) (pb : PosO b) : fewI (itR rs) a b 0 = mmR rs a b := by
  unfold mmR
  by_cases e : a = b
  · rw [if_pos e, e, few_eq]
  · rw [if_neg e]
    exact few_mg rs a b 0 k pa pb e
def oV : Option Int → V
  | none => .non
  | some i => .int i
section
variable {P : Program} {w : World} {K : PySem.W.Frag} {mg : Str → Option Value} {base : Heap}
end
end UP

set_option Elab.async false
set_option linter.all false
set_option maxRecDepth 100000
set_option maxHeartbeats 4000000
namespace UP
open PySem PySem.Spec PyProof.Rows L2
theorem Reel.runs_ne {H : Hp} {p a : Addr} {rs : List Run} (z : Reel H p) (h : Runs H a rs) : a ≠ p := by
  obtain ⟨xs, e, hp⟩ := h
  obtain ⟨g, c, gs, cs, n, s, hs, _⟩ := z
  refine ne_of e hs fun q => ?_
  have q := HO.lst.inj q
  subst q
  cases hp with
  | cons _ hp =>
  cases hp with
  | cons _ hp =>
  cases hp with
  | cons h _ =>
    obtain ⟨t, e, _⟩ := h
    cases e
theorem RB.runs {p a : Addr} {H H' : Hp} {rs : List Run} (b : RB p H H') (z : Reel H p) (h : Runs H a rs) : Runs H' a rs := by
  have n := z.runs_ne h
  obtain ⟨xs, e, hp⟩ := h
  exact ⟨xs, b.but _ _ n e, Paired.imp (fun _ _ => b.run z) hp⟩
theorem altR_snoc {l : List Run} {x : Run} (h : Alt l) (k : ∀ y, l[l.length - 1]? = some y → y.1 ≠ x.1) : Alt (l ++ [x]) := alt_snoc h k
section
variable {P : Program} {w : World} {K : PySem.W.Frag} {mg : Str → Option Value} {base : Heap}
/-! _law_runs: slots 0:reel 1:names 2:many 3:longest 4:found 5:turn 6:kind -/
abbrev s_law_runs : Stmt := topS 43
theorem sc_law_runs : FnScope ["reel", "names", "many", "longest", "found", "turn", "kind"] ["reel", "names", "many", "longest"] (defScope s_law_runs) := ⟨rfl, rfl, rfl, by decide +kernel, rfl, by decide +kernel, by decide +kernel⟩
def sp_law_runs : Sp := fun vs H Q _ => ∃ (p l : Addr) (ks : List Str) (m g : Int), vs = [.ref p, .ref l, .int m, .int g] ∧ Reel H p ∧ H l = some (.lst (ks.map V.str)) ∧ 0 < ks.length ∧ ks.length ≤ 13 ∧ (∀ s ∈ ks, KindOk s) ∧ 0 ≤ m ∧ m ≤ 400 ∧ 1 ≤ g ∧ g ≤ 1000000000000000000000000000000 ∧
  ∀ H' L rs, RB p H H' → Reel H' p → Off H' p L → H L = none → Runs H' L rs → SeqOk rs → (rs.length : Int) ≤ m → (∀ r ∈ rs, r.2 ≤ g) → (∀ r ∈ rs, r.1 ∈ ks) → Q (.ref L) H'
theorem ok_law_runs (D : Df K mg "_law_runs" s_law_runs) (T : Tx mg) (G_law_draw : Has P w K mg base 1 "_law_draw" ["reel", "many"] sp_law_draw) : Has P w K mg base 2 "_law_runs" ["reel", "names", "many", "longest"] sp_law_runs := by
  refine has_of D sc_law_runs (fun _ _ _ _ _ _ us hl => match us, hl with | [_, _, _, _], _ => rfl) (fun vs H Q E h => ?_) (fun f cdv A outer s₀ H vs Q E hr h => ?_)
  · obtain ⟨_, _, _, _, _, rfl, _⟩ := h
    rfl
  · obtain ⟨p, l, ks, m, g, rfl, z, hl, k1, k2, okk, m0, m4, g1, g2, q⟩ := h
    refine ⟨_, (pss_cons (ps_set (i := 4) sc_law_runs.nd rfl (by first | exact Or.inl rfl | exact Or.inr rfl) (pe_lst pa_nil))
    (pss_cons (ps_for PassesOwn.never rfl (pi_range1 (by rfl) T.n_range (pa_cons (pe_callH G_law_draw (hr.mono (by omega)) (by rfl) (pa_cons (pv 0) (pa_cons (pe_op op_add (pv 2) pe_int) pa_nil))) pa_nil)) (pg_name (i := 5) sc_law_runs.nd rfl (by first | exact Or.inl rfl | exact Or.inr rfl))
      (pss_cons (ps_set (i := 6) sc_law_runs.nd rfl (by first | exact Or.inl rfl | exact Or.inr rfl) (pe_ix ix_list (pv 1) (pe_callH G_law_draw (hr.mono (by omega)) (by rfl) (pa_cons (pv 0) (pa_cons (pe_callB call_len_seq (by rfl) T.n_len (by decide +kernel) (pa_cons (pv 1) pa_nil)) pa_nil))) (fun _ _ => rfl)))
    (pss_one (ps_if (PW.pt (pw_or (pt_cmpR (op_eqD hr.units) (pv 4) (pe_lst pa_nil) (nomark _)) (pw_or1 (pt_cmpR op_ne (pe_ix ix_tup (pe_ix ix_list (pv 4) (pe_un un_neg pe_int) (fun _ _ => rfl)) pe_int (fun _ _ => rfl)) (pv 6) (nomark _))))) (pss_one (ps_expr (pe_bm PySem.F.plainAttrs_list PySem.F.slot_list_append PySem.F.type_list_append mt_append (pv 4) (pa_cons (pe_tup (pa_cons (pv 6) (pa_cons (pe_op op_add pe_int (pe_callH G_law_draw (hr.mono (by omega)) (by rfl) (pa_cons (pv 0) (pa_cons (pv 3) pa_nil)))) pa_nil))) pa_nil)))) pss_nil))))
    (pss_one (ps_ret (pv 4))))), ?_⟩
    refine ⟨Nat.zero_le _, fun L nL => ?_⟩
    have nLp := z.ne nL
    have sL := same_upd (o := .lst []) nL
    refine ⟨_, rfl, _, rfl, _, _, rfl, rfl, p, _, rfl, z.same sL, (by show 1 ≤ m + 1; omega), (wide8 (by show 0 ≤ m + 1; omega) (by show m + 1 ≤ _; omega)), fun H1 r b1 z1 r0 r1 => ?_⟩
    have r1 : r < m + 1 := r1
    refine ⟨r, rfl, by omega, by omega, for_range (lo := 0) (n := r.toNat) (fun i σ H' => ∃ y5 y6 rs, σ = [some (.ref p), some (.ref l), some (.int m), some (.int g), some (.ref L), y5, y6] ∧ RB p H H' ∧ Reel H' p ∧ Off H' p L ∧ H' l = some (.lst (ks.map V.str)) ∧ Runs H' L rs ∧ rs.length ≤ i ∧ (∀ r ∈ rs, RunOk r ∧ r.2 ≤ g ∧ r.1 ∈ ks) ∧ Alt rs)
      ⟨none, none, [], rfl, (RB.of sL).trans b1, z1, b1.off _ _ upd_same ((z.off nL).upd nLp), b1.strs (z.same sL) (sL _ _ hl), ⟨[], b1.but _ _ nLp upd_same, .nil⟩, Nat.zero_le _, (fun r h => by cases h), (fun i x y h => by simp at h)⟩ (fun i σ H6 hi hP => ?_) (fun σ H6 hP => ?_)⟩
    · obtain ⟨y5, y6, rs, rfl, b6, z6, o6, hl6, hR, lr, okr, alt⟩ := hP
      refine ⟨_, rfl, _, rfl, _, rfl, l, _, rfl, .inl (.of hl6), p, _, rfl, z6, ?_, ?_, fun H7 r7 b7 z7 r70 r71 => ?_⟩
      · rw [List.length_map]
        omega
      · rw [List.length_map]
        exact wide8 (by omega) (by omega)
      rw [List.length_map] at r71
      have lt : r7.toNat < ks.length := by omega
      have hl7 := b7.strs z6 hl6
      have ek : (ks.map V.str)[r7.toNat]? = some (.str ks[r7.toNat]) := by
        rw [List.getElem?_map, List.getElem?_eq_getElem lt]
        rfl
      have kin : ks[r7.toNat] ∈ ks := List.getElem_mem lt
      have kk : KindOk ks[r7.toNat] := okk _ kin
      generalize ks[r7.toNat] = kd at ek kk kin
      refine ⟨l, _, r7, _, rfl, rfl, .of hl7, atI_ofR r70 ek, ?_⟩
      have hR8 : Runs H7 L rs := b7.runs z6 hR
      have B8 := b6.trans b7
      have o8 : Off H7 p L := by
        obtain ⟨xs, hx, _⟩ := hR
        exact b7.off _ _ hx o6
      have okR : ∀ r ∈ rs, KindOk r.1 := fun r h => (okr r h).1.1
      clear b7 hR hl6 b6 z6 o6
      obtain ⟨xs, hx, hpr⟩ := hR8
      have lx : xs.length = rs.length := Paired.len hpr
      dsimp only
      refine if_by (fun b H9 => Same H7 H9 ∧ (b = true → ∀ y, rs[rs.length - 1]? = some y → y.1 ≠ kd)) (fun Q' k => ?_) (fun H9 hq => ?_) (fun H9 hq => ?_)
      · refine ⟨_, rfl, Nat.zero_le _, fun e ne => ?_⟩
        have se : Same H7 (upd H7 e (.lst [])) := same_upd ne
        refine ⟨.list (rs.map dRun), .list [], .lst (.of (se _ _ hx)) (dp_all (prs_same se hpr)), .lst (.of upd_same) .nil, shaped_runs okR, shaped_nil, _, rfl, ?_⟩
        rw [eqv_nil]
        cases hrs : rs with
        | nil => exact iteP rfl (k _ _ ⟨se, fun _ y hy => by rw [hrs] at hy; cases hy⟩)
        | cons r0 t0 =>
          refine iteN rfl ?_
          have hne : rs ≠ [] := by rw [hrs]; intro z; cases z
          have hlt : rs.length - 1 < rs.length := by
            have : 0 < rs.length := by rw [hrs]; exact Nat.succ_pos _
            omega
          obtain ⟨x, ex, hxv⟩ := Paired.at' hpr (List.getElem?_eq_getElem hlt)
          obtain ⟨tt, rfl, htt⟩ := RunV.same se hxv
          have exl : atI xs (-1) = some (.ref tt) := by
            have h1 : xs ≠ [] := fun z => by rw [z] at lx; rw [hrs] at lx; cases lx
            have h2 : xs = xs.dropLast ++ [xs.getLast h1] := (List.dropLast_concat_getLast h1).symm
            have h3 : xs.getLast h1 = .ref tt := by
              have := List.getLast?_eq_getElem? (l := xs)
              rw [lx, ex, List.getLast?_eq_some_getLast h1] at this
              exact Option.some.inj this
            rw [h2, h3]
            exact atI_last _ _
          refine ⟨_, rfl, 1, rfl, L, xs, -1, _, rfl, rfl, .of (se _ _ hx), exl, tt, _, 0, _, rfl, rfl, .of htt, at0, _, rfl, rfl, _, rfl, ?_⟩
          refine k _ _ ⟨se, fun hb y hy => ?_⟩
          rw [List.getElem?_eq_getElem hlt] at hy
          cases hy
          intro z
          rw [z] at hb
          simp at hb
      · obtain ⟨s9, ha⟩ := hq
        refine ⟨_, rfl, .inl ⟨rfl, _, SqL.of (s9 _ _ hx)⟩, _, rfl, _, rfl, _, rfl, p, g, rfl, z7.same s9, g1, wide8 (by omega) (by omega), fun H10 r10 b10 z10 r100 r101 => ⟨_, _, rfl, rfl, (by show 2 ≤ sizeLine; decide), fun n nn => ?_⟩⟩
        have hx10 := b10.but _ _ nLp (s9 _ _ hx)
        have hp10 : Paired (RunV H10) xs rs := Paired.imp (fun _ _ h => b10.run (z7.same s9) (h.same s9)) hpr
        have o10 := b10.off _ _ (s9 _ _ hx) (o8.same s9)
        have sn := same_upd (o := .tup [.str kd, .int (1 + r10)]) nn
        refine ⟨L, _, _, rfl, rfl, sn _ _ hx10, small (by omega), ?_⟩
        refine ⟨_, _, rs ++ [(kd, 1 + r10)], rfl, ((((B8.trans (RB.of s9)).trans b10).trans (RB.of sn)).grow nL (o10.same sn)), (z10.same sn).upd (o10.same sn), (o10.same sn).upd nLp, ?_, ⟨_, upd_same, Paired.app (prs_grow (sn _ _ hx10) (prs_same sn hp10)) (.cons (RunV.grow (sn _ _ hx10) ⟨n, rfl, upd_same⟩) .nil)⟩, ?_, ?_, altR_snoc alt (ha rfl)⟩
        · have nl : l ≠ L := ne_of_none hl nL
          rw [upd_ne nl]
          exact sn _ _ (b10.strs (z7.same s9) (s9 _ _ hl7))
        · rw [List.length_append]
          show rs.length + 1 ≤ i + 1
          omega
        · intro r hr
          rcases List.mem_append.mp hr with h | h
          · exact okr r h
          · rw [List.mem_singleton.mp h]
            exact ⟨⟨kk, by show 1 ≤ 1 + r10; omega, by show 1 + r10 ≤ _; omega⟩, by show 1 + r10 ≤ g; omega, kin⟩
      · obtain ⟨s9, ha⟩ := hq
        exact ⟨_, _, rs, rfl, B8.trans (RB.of s9), z7.same s9, o8.same s9, s9 _ _ hl7, ⟨xs, s9 _ _ hx, prs_same s9 hpr⟩, by omega, okr, alt⟩
    · obtain ⟨y5, y6, rs, rfl, b6, z6, o6, hl6, hR, lr, okr, alt⟩ := hP
      exact ⟨_, rfl, q H6 L rs b6 z6 o6 nL hR ⟨by omega, fun r h => (okr r h).1, alt⟩ (by omega) (fun r h => (okr r h).2.1) (fun r h => (okr r h).2.2)⟩
/-! _law_end: slots 0:runs 1:state 2:kind 3:count -/
abbrev s_law_end : Stmt := topS 46
theorem sc_law_end : FnScope ["runs", "state", "kind", "count"] ["runs", "state"] (defScope s_law_end) := ⟨rfl, rfl, rfl, by decide +kernel, rfl, by decide +kernel, by decide +kernel⟩
def sp_law_end : Sp := fun vs H Q _ => ∃ (a : Addr) (rs : List Run) (v : V) (st : Option Run), vs = [.ref a, v] ∧ Runs H a rs ∧ (∀ r ∈ rs, 1 ≤ r.2) ∧ StV H v st ∧ ∀ H' v', Same H H' → StV H' v' (stR rs st) → Q v' H'
theorem ok_law_end (D : Df K mg "_law_end" s_law_end) (G_law_step : Has P w K mg base 1 "_law_step" ["state", "kind", "count"] sp_law_step) : Has P w K mg base 2 "_law_end" ["runs", "state"] sp_law_end := by
  refine has_of D sc_law_end (fun _ _ _ _ _ _ us hl => match us, hl with | [_, _], _ => rfl) (fun vs H Q E h => ?_) (fun f cdv A outer s₀ H vs Q E hr h => ?_)
  · obtain ⟨_, _, _, _, rfl, _⟩ := h
    rfl
  · obtain ⟨a, rs, v, st, rfl, ⟨xs, hx, hpr⟩, pos, hv, q⟩ := h
    have lx : xs.length = rs.length := Paired.len hpr
    refine ⟨_, (pss_cons (ps_for PassesOwn.never rfl (pi_list (pv 0)) (pg_tup rfl (pgs_cons (pg_name (i := 2) sc_law_end.nd rfl (by first | exact Or.inl rfl | exact Or.inr rfl)) (pgs_cons (pg_name (i := 3) sc_law_end.nd rfl (by first | exact Or.inl rfl | exact Or.inr rfl)) pgs_nil)))
      (pss_one (ps_set (i := 1) sc_law_end.nd rfl (by first | exact Or.inl rfl | exact Or.inr rfl) (pe_callH G_law_step (hr.mono (by omega)) (by rfl) (pa_cons (pv 1) (pa_cons (pv 2) (pa_cons (pv 3) pa_nil)))))))
    (pss_one (ps_ret (pv 1)))), ?_⟩
    refine ⟨_, rfl, a, rfl, ⟨xs, .of hx⟩, for_list (K := K) (a := a) (xs := xs) (fun i σ H' => ∃ u y2 y3, σ = [some (.ref a), some u, y2, y3] ∧ Same H H' ∧ StV H' u (stR (rs.take i) st))
      ⟨v, none, none, rfl, Same.refl _, hv⟩ (fun i σ H' _ hP => ?_) (fun i x σ H4 ex hP => ?_) (fun σ H4 hP => ?_)⟩
    · obtain ⟨_, _, _, _, sm, _⟩ := hP
      exact .of (sm _ _ hx)
    · obtain ⟨u, y2, y3, rfl, sm, hu⟩ := hP
      obtain ⟨r, er, hr1⟩ := Paired.at hpr ex
      obtain ⟨t, rfl, ht⟩ := RunV.same sm hr1
      have c1 := pos r (List.mem_of_getElem? er)
      refine ⟨t, _, rfl, .of ht, rfl, _, _, rfl, _, _, rfl, rfl, ?_⟩
      refine ⟨_, rfl, _, rfl, _, rfl, u, _, r.1, r.2, rfl, hu, c1, fun H5 w1 s5 hw1 => ⟨w1, _, _, rfl, sm.trans s5, ?_⟩⟩
      rw [take_snoc er, stR_snoc]
      exact hw1
    · obtain ⟨u, y2, y3, rfl, sm, hu⟩ := hP
      rw [lx, List.take_length] at hu
      exact ⟨_, rfl, q _ _ sm hu⟩
end
end UP

set_option Elab.async false
set_option linter.all false
set_option maxRecDepth 100000
set_option maxHeartbeats 4000000
set_option pp.maxSteps 500
/-! ### dicts whose keys are None and tuples, at the machine's level -/
namespace UP.Dx
open PySem
open Sem (wp)
/-- the value v is the key k, and is None or a tuple -/
structure KeyAt (h : Heap) (k : NestedKey) (v : Value) : Prop where
  tell : NestedIs h k v
  low : k.depth ≤ 8
  form : v = .none ∨ ∃ a, v = .ref a
theorem KeyAt.one {h : Heap} {v : Value} {x y : NestedKey} (p : KeyAt h x v) (q : KeyAt h y v) : x = y := NestedIs.inj x y v p.tell q.tell
/-- the entries es have the keys ks -/
structure Ents (w : World) (h : Heap) (es : Array DictEntry) (ks : List NestedKey) : Prop where
  len : ks.length = es.size
  ent : ∀ (i : Nat) (k : NestedKey), ks[i]? = some k → ∃ e, es[i]? = some e ∧ e.hash = k.hash w ∧ KeyAt h k e.key
  once : ks.Nodup
def place (ks : List NestedKey) (k : NestedKey) : Option Nat := ks.findIdx? fun x => decide (x = k)
theorem place_at {ks : List NestedKey} (nd : ks.Nodup) {i : Nat} {k : NestedKey} (h : ks[i]? = some k) : place ks k = some i := by
  obtain ⟨l, e⟩ := List.getElem?_eq_some_iff.mp h
  refine List.findIdx?_eq_some_iff_getElem.mpr ⟨l, decide_eq_true e, fun j hj z => ?_⟩
  have ej : ks[j]'(Nat.lt_trans hj l) = ks[i] := (of_decide_eq_true z).trans e.symm
  exact absurd ((List.getElem_inj nd).mp ej) (Nat.ne_of_lt hj)
theorem place_no {ks : List NestedKey} {k : NestedKey} (h : ∀ i : Nat, ks[i]? ≠ some k) : place ks k = none := by
  refine List.findIdx?_eq_none_iff.mpr fun x hx => decide_eq_false fun e => ?_
  obtain ⟨i, hi⟩ := List.getElem?_of_mem hx
  exact h i (by rw [hi, e])
theorem place_ok {ks : List NestedKey} {i : Nat} {k : NestedKey} (h : place ks k = some i) : ks[i]? = some k := by
  obtain ⟨l, e, _⟩ := List.findIdx?_eq_some_iff_getElem.mp h
  rw [List.getElem?_eq_getElem l, of_decide_eq_true e]
theorem place_none {ks : List NestedKey} {k : NestedKey} (h : place ks k = none) : k ∉ ks := fun hm => by
  have := List.findIdx?_eq_none_iff.mp h k hm
  rw [decide_eq_true rfl] at this
  cases this
section
variable {prog : Program} {w : World} {A : Around} {E : Value → Shared → Prop} {s : Shared}
theorem hash_of {k : NestedKey} {v : Value} {Q : Int → Shared → Prop} (hu : A.units + 8 < cLine) (hk : KeyAt s.heap k v) (q : Q (k.hash w) { s with toks := s.toks + k.draws }) : wpAny (model prog w) A (pyHash v) Q E s :=
  pyHash_key k v A s Q hk.tell (Nat.lt_of_le_of_lt (Nat.add_le_add_left hk.low _) hu) q
theorem same_of {x y : NestedKey} {a b : Value} {Q : Bool → Shared → Prop} (hu : A.units + 8 < cLine) (hx : KeyAt s.heap x a) (hy : KeyAt s.heap y b) (q : Q (decide (x = y)) s) : wpAny (model prog w) A (eqBool a b) Q E s := by
  refine eqAt_key x y A s a b hx.tell hy.tell (Nat.lt_of_le_of_lt (Nat.add_le_add_left (Nat.le_trans (Nat.min_le_left _ _) hx.low) _) hu) prog w E Q ?_
  rw [← NestedKey.decide_eq]
  exact q
theorem still_of {k : NestedKey} {v : Value} {Q : Bool → Shared → Prop} (hk : KeyAt s.heap k v) (q : Q true s) : wpAny (model prog w) A (eqIsQuiet 8 v) Q E s := quiet_key k v 8 s hk.tell hk.low A E Q q
/-- no key of these tells that it is compared -/
theorem mute {v : Value} {k : NestedKey} {l : List Value} {Q : Bool → Shared → Prop} (hk : KeyAt s.heap k v) (hl : ∀ u ∈ l, ∃ y, KeyAt s.heap y u) (q : Q false s) : wpAny (model prog w) A (tableMayTell v l) Q E s := by
  unfold tableMayTell
  split
  · exact wpAny_pure q
  refine wpAny_bind (still_of hk ?_)
  simp only [Bool.not_true, Bool.false_eq_true, if_false]
  refine wpAny_bind (wpAny_forIn_list _ (fun todo r t => (t = s ∧ r = (none, ())) ∧ ∀ u ∈ todo, ∃ y, KeyAt s.heap y u) _ ?_ ?_ _ _ ⟨⟨rfl, rfl⟩, hl⟩)
  · rintro u todo r t ⟨⟨rfl, rfl⟩, ok⟩
    obtain ⟨y, hy⟩ := ok u (List.mem_cons_self ..)
    refine wpAny_bind (still_of hy ?_)
    simp only [Bool.not_true, Bool.false_eq_true, if_false]
    exact wpAny_pure ⟨⟨rfl, rfl⟩, fun z hz => ok z (List.mem_cons_of_mem _ hz)⟩
  · rintro r t ⟨⟨rfl, rfl⟩, _⟩
    exact wpAny_pure q
variable {d : Addr} {v : Value} {o : Obj} {es : Array DictEntry} {ep : Nat} {ks : List NestedKey} {k : NestedKey}
theorem Ents.key {i : Nat} {e : DictEntry} (hE : Ents w s.heap es ks) (hi : es[i]? = some e) : ∃ y, ks[i]? = some y ∧ e.hash = y.hash w ∧ KeyAt s.heap y e.key := by
  have l : i < ks.length := by rw [hE.len]; exact (Array.getElem?_eq_some_iff.mp hi).1
  obtain ⟨e', h1, h2, h3⟩ := hE.ent i _ (List.getElem?_eq_getElem l)
  rw [hi] at h1
  cases h1
  exact ⟨_, List.getElem?_eq_getElem l, h2, h3⟩
theorem in_places (hE : Ents w s.heap es ks) {i : Nat} (h : ks[i]? = some k) : i ∈ placesWithHash es.size (fun i => es[i]?.map (·.hash)) (k.hash w) := by
  obtain ⟨e, h1, h2, _⟩ := hE.ent i k h
  unfold placesWithHash
  refine List.mem_filter.mpr ⟨List.mem_range.mpr (Array.getElem?_eq_some_iff.mp h1).1, ?_⟩
  show (es[i]?.map (·.hash) == some (NestedKey.hash w k)) = true
  rw [h1, Option.map_some, h2]
  exact beq_self_eq_true _
theorem places_lt {i : Nat} {n : Nat} {f : Nat → Option Int} {x : Int} (h : i ∈ placesWithHash n f x) : i < n ∧ f i = some x := by
  unfold placesWithHash at h
  obtain ⟨h1, h2⟩ := List.mem_filter.mp h
  exact ⟨List.mem_range.mp h1, eq_of_beq h2⟩
/-- what is known of the places gone through: none is k's, or p is -/
def Seen (ks : List NestedKey) (k : NestedKey) (gone : List Nat) : Option Nat → Prop
  | none => ∀ p ∈ gone, ks[p]? ≠ some k
  | some p => p ∈ gone ∧ ks[p]? = some k
theorem Seen.more {gone : List Nat} {hit : Option Nat} {x : Nat} (h : Seen ks k gone hit) (n : ks[x]? ≠ some k) : Seen ks k (gone ++ [x]) hit := by
  cases hit with
  | some p => exact ⟨List.mem_append_left _ h.1, h.2⟩
  | none =>
    intro p hp
    rcases List.mem_append.mp hp with z | z
    · exact h p z
    · rw [List.mem_singleton.mp z]
      exact n
theorem Seen.last (hE : Ents w s.heap es ks) {hit : Option Nat} (h : Seen ks k (placesWithHash es.size (fun i => es[i]?.map (·.hash)) (k.hash w)) hit) : place ks k = hit := by
  cases hit with
  | some p => exact place_at hE.once h.2
  | none => exact place_no fun i hi => h i (in_places hE hi) hi
theorem plain_find {Q : Option Nat → Shared → Prop} (hu : A.units + 8 < cLine) (hk : KeyAt s.heap k v) (ho : s.heap.get? d = some o) (hd : o.data = .dict es ep) (hE : Ents w s.heap es ks) (q : Q (place ks k) s) :
    wpAny (model prog w) A (dictWalkPlain d v (k.hash w) es (placesWithHash es.size (fun i => es[i]?.map (·.hash)) (k.hash w))) Q E s := by
  have lt : ∀ p ∈ placesWithHash es.size (fun i => es[i]?.map (·.hash)) (k.hash w), p < es.size := fun p hp => (places_lt hp).1
  have fin := fun hit => Seen.last (k := k) (hit := hit) hE
  unfold dictWalkPlain
  generalize placesWithHash es.size (fun i => es[i]?.map (·.hash)) (k.hash w) = ps at *
  refine wpAny_bind (wpAny_forIn_list _ (fun todo b t => (t = s ∧ b = (none, ())) ∧ ∃ gone, gone ++ todo = ps ∧ Seen ks k gone none) _ ?_ ?_ _ _ ⟨⟨rfl, rfl⟩, [], rfl, fun p hp => by cases hp⟩)
  · rintro x todo b t ⟨⟨rfl, rfl⟩, gone, eg, hs⟩
    have xl := lt x (by rw [← eg]; exact List.mem_append_right _ (List.mem_cons_self ..))
    obtain ⟨y, hy, h1, h2⟩ := hE.key (Array.getElem?_eq_getElem xl)
    have nxt : y ≠ k → ∃ gone, gone ++ todo = ps ∧ Seen ks k gone none := fun n => ⟨gone ++ [x], by rw [List.append_assoc]; exact eg, hs.more fun z => n (by rw [hy] at z; exact Option.some.inj z)⟩
    simp only [Array.getElem?_eq_getElem xl]
    split
    · refine wpAny_bind (wpAny_dictEpoch ho hd (wpAny_bind (same_of hu h2 hk (wpAny_bind (wpAny_dictEpoch ho hd ?_)))))
      simp only [bne_self_eq_false, Bool.false_eq_true, if_false]
      by_cases e : y = k
      · rw [decide_eq_true e]
        rw [place_at hE.once (by rw [hy, e])] at q
        exact wpAny_bind (wpAny_rule (wpAny_pure (wpAny_pure q)))
      · rw [decide_eq_false e]
        exact wpAny_bind (wpAny_rule (wpAny_pure ⟨⟨rfl, rfl⟩, nxt e⟩))
    · next n => exact wpAny_pure ⟨⟨rfl, rfl⟩, nxt fun e => n (by rw [h1, e]; exact beq_self_eq_true _)⟩
  · rintro b t ⟨⟨rfl, rfl⟩, gone, eg, hs⟩
    rw [List.append_nil] at eg
    subst eg
    refine wpAny_pure ?_
    rw [fin none hs] at q
    exact q
theorem find_k {Q : Option Nat → Shared → Prop} (hu : A.units + 8 < cLine) (hk : KeyAt s.heap k v) (ho : s.heap.get? d = some o) (hd : o.data = .dict es ep) (hE : Ents w s.heap es ks) (q : Q (place ks k) s) :
    wpAny (model prog w) A (dictFind d v (k.hash w)) Q E s := by
  have pf := plain_find (E := E) (prog := prog) hu hk ho hd hE q
  have lt : ∀ p ∈ placesWithHash es.size (fun i => es[i]?.map (·.hash)) (k.hash w), p < es.size := fun p hp => (places_lt hp).1
  have fin := fun hit => Seen.last (k := k) (hit := hit) hE
  have nd : (placesWithHash es.size (fun i => es[i]?.map (·.hash)) (k.hash w)).Nodup := List.nodup_range.filter _
  have st : ∀ u ∈ (placesWithHash es.size (fun i => es[i]?.map (·.hash)) (k.hash w)).filterMap (fun i => es[i]?.map (·.key)), ∃ y, KeyAt s.heap y u := fun u hu' => by
    obtain ⟨i, hi, e1⟩ := List.mem_filterMap.mp hu'
    have il := lt i hi
    rw [Array.getElem?_eq_getElem il, Option.map_some] at e1
    cases e1
    obtain ⟨y, _, _, h2⟩ := hE.key (Array.getElem?_eq_getElem il)
    exact ⟨y, h2⟩
  unfold dictFind
  try with_reducible refine wpAny_holding ?_
  refine wpAny_bind (wpAny_dictEntries ho hd ?_)
  generalize hps : placesWithHash es.size (fun i => es[i]?.map (·.hash)) (k.hash w) = ps at *
  rcases hk.form with ev | ⟨a, ev⟩
  · subst ev
    dsimp only
    by_cases c1 : (Value.none :: List.filterMap (fun i => es[i]?.map (·.key)) ps).all carriedByValue = true
    · rw [if_pos c1]
      exact pf
    rw [if_neg c1]
    by_cases c2 : (List.filterMap (fun i => es[i]?.map (·.key)) ps == [Value.none]) = true
    · rw [if_pos c2]
      refine wpAny_bind (wpAny_pure ?_)
      rw [if_neg (show ¬ (false && _) = true by rw [Bool.false_and]; exact Bool.false_ne_true)]
      refine wpAny_bind (wpAny_forIn_list _ (fun todo b t => t = s ∧ ∃ hit gone, b = (none, hit) ∧ gone ++ todo = ps ∧ Seen ks k gone hit) _ ?_ ?_ _ _ ⟨rfl, none, [], rfl, rfl, fun p hp => by cases hp⟩)
      · rintro x todo b t ⟨rfl, hit, gone, rfl, eg, hs⟩
        have xl := lt x (by rw [← eg]; exact List.mem_append_right _ (List.mem_cons_self ..))
        have eg2 : (gone ++ [x]) ++ todo = ps := by rw [List.append_assoc]; exact eg
        obtain ⟨y, hy, h1, h2⟩ := hE.key (Array.getElem?_eq_getElem xl)
        simp only [Array.getElem?_eq_getElem xl]
        split
        · refine wpAny_bind (wpAny_dictEpoch ho hd (wpAny_bind (same_of hu h2 hk (wpAny_bind (wpAny_dictEpoch ho hd ?_)))))
          rw [if_neg (show ¬ (ep != ep) = true by rw [bne_self_eq_false]; exact Bool.false_ne_true)]
          by_cases e : y = k
          · have hx : ks[x]? = some k := by rw [hy, e]
            rw [decide_eq_true e]
            cases hit with
            | some p =>
              have px := place_at hE.once hs.2
              rw [place_at hE.once hx] at px
              cases px
              rw [← eg, List.nodup_append] at nd
              exact absurd rfl (nd.2.2 _ hs.1 _ (List.mem_cons_self ..))
            | none =>
              simp only [if_true, Option.isSome_none, Bool.false_eq_true, if_false]
              refine wpAny_bind (wpAny_rule ?_)
              split
              · rw [place_at hE.once hx] at q
                exact wpAny_pure (wpAny_pure q)
              · exact wpAny_pure ⟨rfl, some x, gone ++ [x], rfl, eg2, List.mem_append_right _ (List.mem_cons_self ..), hx⟩
          · rw [decide_eq_false e]
            simp only [Bool.false_eq_true, if_false]
            exact wpAny_bind (wpAny_rule (wpAny_pure ⟨rfl, hit, gone ++ [x], rfl, eg2, hs.more fun z => e (by rw [hy] at z; exact Option.some.inj z)⟩))
        · next n => exact wpAny_pure ⟨rfl, hit, gone ++ [x], rfl, eg2, hs.more fun z => n (by rw [hy] at z; rw [h1, Option.some.inj z]; exact beq_self_eq_true _)⟩
      · rintro b t ⟨rfl, hit, gone, rfl, eg, hs⟩
        rw [List.append_nil] at eg
        subst eg
        rw [fin hit hs] at q
        exact wpAny_pure q
    · rw [if_neg c2]
      refine wpAny_bind (mute hk st ?_)
      rw [if_neg (show ¬ (false && _) = true by rw [Bool.false_and]; exact Bool.false_ne_true)]
      refine wpAny_bind (wpAny_forIn_list _ (fun todo b t => t = s ∧ ∃ hit gone, b = (none, hit) ∧ gone ++ todo = ps ∧ Seen ks k gone hit) _ ?_ ?_ _ _ ⟨rfl, none, [], rfl, rfl, fun p hp => by cases hp⟩)
      · rintro x todo b t ⟨rfl, hit, gone, rfl, eg, hs⟩
        have xl := lt x (by rw [← eg]; exact List.mem_append_right _ (List.mem_cons_self ..))
        have eg2 : (gone ++ [x]) ++ todo = ps := by rw [List.append_assoc]; exact eg
        obtain ⟨y, hy, h1, h2⟩ := hE.key (Array.getElem?_eq_getElem xl)
        simp only [Array.getElem?_eq_getElem xl]
        split
        · refine wpAny_bind (wpAny_dictEpoch ho hd (wpAny_bind (same_of hu h2 hk (wpAny_bind (wpAny_dictEpoch ho hd ?_)))))
          rw [if_neg (show ¬ (ep != ep) = true by rw [bne_self_eq_false]; exact Bool.false_ne_true)]
          by_cases e : y = k
          · have hx : ks[x]? = some k := by rw [hy, e]
            rw [decide_eq_true e]
            cases hit with
            | some p =>
              have px := place_at hE.once hs.2
              rw [place_at hE.once hx] at px
              cases px
              rw [← eg, List.nodup_append] at nd
              exact absurd rfl (nd.2.2 _ hs.1 _ (List.mem_cons_self ..))
            | none =>
              simp only [if_true, Option.isSome_none, Bool.false_eq_true, if_false]
              refine wpAny_bind (wpAny_rule ?_)
              split
              · rw [place_at hE.once hx] at q
                exact wpAny_pure (wpAny_pure q)
              · exact wpAny_pure ⟨rfl, some x, gone ++ [x], rfl, eg2, List.mem_append_right _ (List.mem_cons_self ..), hx⟩
          · rw [decide_eq_false e]
            simp only [Bool.false_eq_true, if_false]
            exact wpAny_bind (wpAny_rule (wpAny_pure ⟨rfl, hit, gone ++ [x], rfl, eg2, hs.more fun z => e (by rw [hy] at z; exact Option.some.inj z)⟩))
        · next n => exact wpAny_pure ⟨rfl, hit, gone ++ [x], rfl, eg2, hs.more fun z => n (by rw [hy] at z; rw [h1, Option.some.inj z]; exact beq_self_eq_true _)⟩
      · rintro b t ⟨rfl, hit, gone, rfl, eg, hs⟩
        rw [List.append_nil] at eg
        subst eg
        rw [fin hit hs] at q
        exact wpAny_pure q
  · subst ev
    dsimp only
    have no : ¬ (es.any fun e => e.key == Value.ref a && e.hash != k.hash w) = true := fun z => by
      obtain ⟨i, hi, z⟩ := Array.any_eq_true.mp z
      obtain ⟨y, _, h1, h2⟩ := hE.key (Array.getElem?_eq_getElem hi)
      rw [Bool.and_eq_true] at z
      rw [eq_of_beq z.1] at h2
      rw [h1, h2.one hk] at z
      simp at z
    rw [if_neg (show ¬ (Value.ref a :: List.filterMap (fun i => es[i]?.map (·.key)) ps).all carriedByValue = true by rw [List.all_cons]; exact Bool.false_ne_true), if_neg no]
    by_cases c2 : (List.filterMap (fun i => es[i]?.map (·.key)) ps == [Value.ref a]) = true
    · rw [if_pos c2]
      refine wpAny_bind (wpAny_pure ?_)
      rw [if_neg (show ¬ (false && _) = true by rw [Bool.false_and]; exact Bool.false_ne_true)]
      refine wpAny_bind (wpAny_forIn_list _ (fun todo b t => t = s ∧ ∃ hit gone, b = (none, hit) ∧ gone ++ todo = ps ∧ Seen ks k gone hit) _ ?_ ?_ _ _ ⟨rfl, none, [], rfl, rfl, fun p hp => by cases hp⟩)
      · rintro x todo b t ⟨rfl, hit, gone, rfl, eg, hs⟩
        have xl := lt x (by rw [← eg]; exact List.mem_append_right _ (List.mem_cons_self ..))
        have eg2 : (gone ++ [x]) ++ todo = ps := by rw [List.append_assoc]; exact eg
        obtain ⟨y, hy, h1, h2⟩ := hE.key (Array.getElem?_eq_getElem xl)
        simp only [Array.getElem?_eq_getElem xl]
        split
        · refine wpAny_bind (wpAny_dictEpoch ho hd (wpAny_bind (same_of hu h2 hk (wpAny_bind (wpAny_dictEpoch ho hd ?_)))))
          rw [if_neg (show ¬ (ep != ep) = true by rw [bne_self_eq_false]; exact Bool.false_ne_true)]
          by_cases e : y = k
          · have hx : ks[x]? = some k := by rw [hy, e]
            rw [decide_eq_true e]
            cases hit with
            | some p =>
              have px := place_at hE.once hs.2
              rw [place_at hE.once hx] at px
              cases px
              rw [← eg, List.nodup_append] at nd
              exact absurd rfl (nd.2.2 _ hs.1 _ (List.mem_cons_self ..))
            | none =>
              simp only [if_true, Option.isSome_none, Bool.false_eq_true, if_false]
              refine wpAny_bind (wpAny_rule ?_)
              split
              · rw [place_at hE.once hx] at q
                exact wpAny_pure (wpAny_pure q)
              · exact wpAny_pure ⟨rfl, some x, gone ++ [x], rfl, eg2, List.mem_append_right _ (List.mem_cons_self ..), hx⟩
          · rw [decide_eq_false e]
            simp only [Bool.false_eq_true, if_false]
            exact wpAny_bind (wpAny_rule (wpAny_pure ⟨rfl, hit, gone ++ [x], rfl, eg2, hs.more fun z => e (by rw [hy] at z; exact Option.some.inj z)⟩))
        · next n => exact wpAny_pure ⟨rfl, hit, gone ++ [x], rfl, eg2, hs.more fun z => n (by rw [hy] at z; rw [h1, Option.some.inj z]; exact beq_self_eq_true _)⟩
      · rintro b t ⟨rfl, hit, gone, rfl, eg, hs⟩
        rw [List.append_nil] at eg
        subst eg
        rw [fin hit hs] at q
        exact wpAny_pure q
    · rw [if_neg c2]
      refine wpAny_bind (mute hk st ?_)
      rw [if_neg (show ¬ (false && _) = true by rw [Bool.false_and]; exact Bool.false_ne_true)]
      refine wpAny_bind (wpAny_forIn_list _ (fun todo b t => t = s ∧ ∃ hit gone, b = (none, hit) ∧ gone ++ todo = ps ∧ Seen ks k gone hit) _ ?_ ?_ _ _ ⟨rfl, none, [], rfl, rfl, fun p hp => by cases hp⟩)
      · rintro x todo b t ⟨rfl, hit, gone, rfl, eg, hs⟩
        have xl := lt x (by rw [← eg]; exact List.mem_append_right _ (List.mem_cons_self ..))
        have eg2 : (gone ++ [x]) ++ todo = ps := by rw [List.append_assoc]; exact eg
        obtain ⟨y, hy, h1, h2⟩ := hE.key (Array.getElem?_eq_getElem xl)
        simp only [Array.getElem?_eq_getElem xl]
        split
        · refine wpAny_bind (wpAny_dictEpoch ho hd (wpAny_bind (same_of hu h2 hk (wpAny_bind (wpAny_dictEpoch ho hd ?_)))))
          rw [if_neg (show ¬ (ep != ep) = true by rw [bne_self_eq_false]; exact Bool.false_ne_true)]
          by_cases e : y = k
          · have hx : ks[x]? = some k := by rw [hy, e]
            rw [decide_eq_true e]
            cases hit with
            | some p =>
              have px := place_at hE.once hs.2
              rw [place_at hE.once hx] at px
              cases px
              rw [← eg, List.nodup_append] at nd
              exact absurd rfl (nd.2.2 _ hs.1 _ (List.mem_cons_self ..))
            | none =>
              simp only [if_true, Option.isSome_none, Bool.false_eq_true, if_false]
              refine wpAny_bind (wpAny_rule ?_)
              split
              · rw [place_at hE.once hx] at q
                exact wpAny_pure (wpAny_pure q)
              · exact wpAny_pure ⟨rfl, some x, gone ++ [x], rfl, eg2, List.mem_append_right _ (List.mem_cons_self ..), hx⟩
          · rw [decide_eq_false e]
            simp only [Bool.false_eq_true, if_false]
            exact wpAny_bind (wpAny_rule (wpAny_pure ⟨rfl, hit, gone ++ [x], rfl, eg2, hs.more fun z => e (by rw [hy] at z; exact Option.some.inj z)⟩))
        · next n => exact wpAny_pure ⟨rfl, hit, gone ++ [x], rfl, eg2, hs.more fun z => n (by rw [hy] at z; rw [h1, Option.some.inj z]; exact beq_self_eq_true _)⟩
      · rintro b t ⟨rfl, hit, gone, rfl, eg, hs⟩
        rw [List.append_nil] at eg
        subst eg
        rw [fin hit hs] at q
        exact wpAny_pure q
/-- at d stands a dict with these entries -/
def DictE (w : World) (h : Heap) (d : Addr) (es : Array DictEntry) (ks : List NestedKey) : Prop := ∃ o ep, h.get? d = some o ∧ o.ExactDict ∧ o.data = .dict es ep ∧ Ents w h es ks
theorem DictE.isDict (D : DictE w s.heap d es ks) : s.TypeIs (.ref d) "dict" := by
  obtain ⟨o, _, h1, h2, _⟩ := D
  exact ⟨o, h1, h2.1⟩
def gotE (es : Array DictEntry) (ks : List NestedKey) (k : NestedKey) : Option Value := (place ks k).bind fun i => es[i]?.map (·.val)
theorem look {Q : Option Value → Shared → Prop} (hu : A.units + 8 < cLine) (hk : KeyAt s.heap k v) (D : DictE w s.heap d es ks) (q : Q (gotE es ks k) { s with toks := s.toks + k.draws }) : wpAny (model prog w) A (dictGet d v) Q E s := by
  obtain ⟨o, ep, ho, _, hd, hE⟩ := D
  unfold dictGet
  try with_reducible refine wpAny_holding ?_
  refine wpAny_bind (hash_of hu hk (wpAny_bind (find_k (s := { s with toks := s.toks + k.draws }) hu hk ho hd hE ?_)))
  unfold gotE at q
  cases hp : place ks k with
  | none =>
    rw [hp] at q
    exact wpAny_pure q
  | some i =>
    rw [hp] at q
    exact wpAny_bind (wpAny_dictEntries (s := { s with toks := s.toks + k.draws }) ho hd (wpAny_pure q))
theorem KeyAt.stay {h h' : Heap} {k : NestedKey} {v : Value} (hk : KeyAt h k v) (ho : h.get? d = some o) (hd : o.data = .dict es ep) (sb : Heap.SameBut d h h') : KeyAt h' k v := by
  refine ⟨NestedIs.at (fun b ob l n e1 e2 => ?_) k v hk.tell, hk.low, hk.form⟩
  have nb : b ≠ d := fun z => by
    rw [z, ho] at e1
    cases e1
    rw [hd] at e2
    cases e2
  exact (sb.2 b nb).trans e1
theorem Ents.stay {h h' : Heap} (hE : Ents w h es ks) (ho : h.get? d = some o) (hd : o.data = .dict es ep) (sb : Heap.SameBut d h h') : Ents w h' es ks := by
  refine ⟨hE.len, fun i k hi => ?_, hE.once⟩
  obtain ⟨e, h1, h2, h3⟩ := hE.ent i k hi
  exact ⟨e, h1, h2, h3.stay ho hd sb⟩
theorem Ents.add {h : Heap} {x : Value} (hE : Ents w h es ks) (hk : KeyAt h k v) (n : place ks k = none) : Ents w h (es.push ⟨k.hash w, v, x⟩) (ks ++ [k]) := by
  refine ⟨by rw [List.length_append, Array.size_push, hE.len]; rfl, fun i y hi => ?_, ?_⟩
  · rcases Nat.lt_or_ge i ks.length with l | l
    · rw [List.getElem?_append_left l] at hi
      obtain ⟨e, h1, h2⟩ := hE.ent i y hi
      refine ⟨e, ?_, h2⟩
      rw [Array.getElem?_push, if_neg (by rw [← hE.len]; omega)]
      exact h1
    · rw [List.getElem?_append_right l] at hi
      have e0 : i - ks.length = 0 := by
        have := (List.getElem?_eq_some_iff.mp hi).1
        rw [List.length_singleton] at this
        omega
      rw [e0] at hi
      cases hi
      refine ⟨⟨k.hash w, v, x⟩, ?_, rfl, hk⟩
      rw [Array.getElem?_push, if_pos (by rw [← hE.len]; omega)]
  · refine List.nodup_append.mpr ⟨hE.once, List.nodup_cons.mpr ⟨List.not_mem_nil, List.nodup_nil⟩, fun a ha b hb => ?_⟩
    rw [List.mem_singleton.mp hb]
    exact fun z => place_none n (z ▸ ha)
theorem Ents.over {h : Heap} {i : Nat} {x : Value} (hE : Ents w h es ks) : Ents w h (es.modify i fun e => { e with val := x }) ks := by
  refine ⟨by rw [Array.size_modify]; exact hE.len, fun j y hj => ?_, hE.once⟩
  obtain ⟨e, h1, h2, h3⟩ := hE.ent j y hj
  rw [Array.getElem?_modify, h1]
  by_cases c : i = j
  · rw [if_pos c]
    exact ⟨_, rfl, h2, h3⟩
  · rw [if_neg c]
    exact ⟨_, rfl, h2, h3⟩
/-- the entries behind d[k] = x -/
def putE (w : World) (es : Array DictEntry) (ks : List NestedKey) (k : NestedKey) (v x : Value) : Array DictEntry × List NestedKey := match place ks k with
  | some i => (es.modify i fun e => { e with val := x }, ks)
  | none => (es.push ⟨k.hash w, v, x⟩, ks ++ [k])
theorem store {x : Value} {Q : Unit → Shared → Prop} (hu : A.units + 8 < cLine) (hk : KeyAt s.heap k v) (D : DictE w s.heap d es ks) (hz : es.size ≤ sizeLine)
    (q : ∀ h', DictE w h' d (putE w es ks k v x).1 (putE w es ks k v x).2 → Heap.SameBut d s.heap h' → Q () { s with heap := h', toks := s.toks + k.draws }) : wpAny (model prog w) A (dictSet d v x) Q E s := by
  obtain ⟨o, ep, ho, hc, hd, hE⟩ := D
  unfold dictSet
  try with_reducible refine wpAny_holding ?_
  refine wpAny_bind (hash_of hu hk ?_)
  unfold dictSetHashed
  try with_reducible refine wpAny_holding ?_
  refine wpAny_bind (find_k (s := { s with toks := s.toks + k.draws }) hu hk ho hd hE ?_)
  unfold putE at q
  cases hp : place ks k with
  | some i =>
    rw [hp] at q
    have sb : Heap.SameBut d s.heap (s.heap.update d (Obj.mapDict fun l => l.modify i fun e => { e with val := x })) := Heap.SameBut.update ..
    exact wpAny_bind (wpAny_rule (wpAny_bind (wpAny_updateDict (s := { s with toks := s.toks + k.draws }) ho hd (wpAny_point (q _ ⟨_, ep, Heap.get?_update_self _ ho (Obj.isFreed_of_dict (Obj.data_mapDict hd _)), hc.mapDict _, Obj.data_mapDict hd _, (hE.stay ho hd sb).over⟩ sb)))))
  | none =>
    rw [hp] at q
    have sb : Heap.SameBut d s.heap (s.heap.update d (Obj.mapDictKeys fun l => l.push ⟨k.hash w, v, x⟩)) := Heap.SameBut.update ..
    exact wpAny_bind (wpAny_rule (wpAny_updateDictKeys (hz := hz) (s := { s with toks := s.toks + k.draws }) ho hd (q _ ⟨_, ep + 1, Heap.get?_update_self _ ho (Obj.isFreed_of_dict (Obj.data_mapDictKeys hd _)), hc.mapDictKeys _, Obj.data_mapDictKeys hd _, (hE.stay ho hd sb).add (hk.stay ho hd sb) hp⟩ sb)))
theorem gotE_some : (gotE es ks k).isSome = true ↔ ∃ i e, place ks k = some i ∧ es[i]? = some e := by
  unfold gotE
  cases hp : place ks k with
  | none => simp
  | some i => cases he : es[i]? <;> simp [he]
/-- k in d -/
theorem has_k {Q : Value → Shared → Prop} (hu : A.units + 1 + 8 < cLine) (hk : KeyAt s.heap k v) (nm : (d == sysModules) = false) (D : DictE w s.heap d es ks) (q : Q (.bool (gotE es ks k).isSome) { s with toks := s.toks + k.draws }) :
    wpAny (model prog w) A (compareOp .In v (.ref d)) Q E s := by
  show wpAny _ _ (do return .bool (← contains (.ref d) v)) Q E s
  refine wpAny_bind (wpAny_contains_slot D.isDict F.slot_dict_contains (call_meetsIn F.slot_dict_contains D.isDict F.entry_dict_contains (F.args_dict_contains_2 _ _) (S := fun B R t => B = A ∧ t = s ∧ R (.ok (.ret (.bool (gotE es ks k).isSome))) { s with toks := s.toks + k.draws }) (fun B R t hS => ?_) ⟨rfl, rfl, wpAny_truthy_bool (wpAny_pure q)⟩))
  obtain ⟨rfl, rfl, hR⟩ := hS
  show wpAny _ _ (dictGet d v >>= _) _ _ _
  refine wpAny_bind (look (A := B.in1) hu hk D ?_)
  cases hg : gotE es ks k with
  | some x =>
    rw [hg] at hR
    show wpAny _ _ (ret (.bool true)) _ _ _
    exact wpAny_pure hR
  | none =>
    rw [hg] at hR
    show wpAny _ _ (Builtin.Dict.pendingKey? d v >>= _) _ _ _
    exact wpAny_bind (wpAny_pendingKey_other nm (wpAny_pure hR))
/-- d[k], which is there -/
theorem item_k {x : Value} {Q : Value → Shared → Prop} (hu : A.units + 1 + 8 < cLine) (hk : KeyAt s.heap k v) (D : DictE w s.heap d es ks) (g : gotE es ks k = some x) (q : Q x { s with toks := s.toks + k.draws }) : wpAny (model prog w) A (getItem (.ref d) v) Q E s := by
  unfold getItem
  try with_reducible refine wpAny_holding ?_
  refine wpAny_bind (wpAny_sequenceKey D.isDict (by decide) (wpAny_bind (wpAny_callSpecial?_slot (name := Str.ofString "__getitem__") D.isDict slot_dict_getitem (wpAny_call_entry slot_dict_getitem D.isDict entry_dict_getitem ?_ (args_dict_getitem _ _)))))
  show wpAny _ _ (dictGet d v >>= _) _ _ s
  refine wpAny_bind (look (A := A.in1) hu hk D ?_)
  rw [g]
  exact wpAny_pure ⟨x, rfl, wpAny_pure q⟩
/-- d[k] = x -/
theorem put_k {x : Value} {Q : Unit → Shared → Prop} (hu : A.units + 1 + 8 < cLine) (hk : KeyAt s.heap k v) (D : DictE w s.heap d es ks) (hz : es.size ≤ sizeLine)
    (q : ∀ h', DictE w h' d (putE w es ks k v x).1 (putE w es ks k v x).2 → Heap.SameBut d s.heap h' → Q () { s with heap := h', toks := s.toks + k.draws }) : wpAny (model prog w) A (setItem (.ref d) v x) Q E s := by
  unfold setItem
  try with_reducible refine wpAny_holding ?_
  refine wpAny_bind (wpAny_sequenceKey D.isDict (by decide) (wpAny_bind (wpAny_callSpecial?_slot (name := Str.ofString "__setitem__") D.isDict slot_dict_setitem (wpAny_call_entry slot_dict_setitem D.isDict entry_dict_setitem ?_ (args_dict_setitem _ _ _)))))
  show wpAny _ _ (Builtin.Dict.notOrdered "__setitem__" ⟨[.ref d, v, x], []⟩ >>= _) _ _ s
  refine wpAny_bind (wpAny_notOrdered_dict D.isDict ?_)
  show wpAny _ _ (dictSet d v x >>= _) _ _ s
  exact wpAny_bind (store (A := A.in1) hu hk D hz fun h' D' sb => wpAny_pure ⟨.none, rfl, wpAny_pure (q h' D' sb)⟩)
/-- d.get(k, x) -/
theorem get_k {x : Value} {Q : Value → Shared → Prop} (hu : A.units + 1 + 8 < cLine) (hk : KeyAt s.heap k v) (nm : (d == sysModules) = false) (D : DictE w s.heap d es ks) (q : Q ((gotE es ks k).getD x) { s with toks := s.toks + k.draws }) :
    wpAny (model prog w) A (call (.builtin "dict.get") [.ref d, v, x]) Q E s := by
  refine call_meetsIn F.slot_dict_get D.isDict F.entry_dict_get (F.args_dict_get_3 _ _ _) (S := fun B R t => B = A ∧ t = s ∧ R (.ok (.ret ((gotE es ks k).getD x))) { s with toks := s.toks + k.draws }) (fun B R t hS => ?_) ⟨rfl, rfl, q⟩
  obtain ⟨rfl, rfl, hR⟩ := hS
  show wpAny _ _ (dictGet d v >>= _) _ _ _
  refine wpAny_bind (look (A := B.in1) hu hk D ?_)
  cases hg : gotE es ks k with
  | some y =>
    rw [hg] at hR
    exact wpAny_pure hR
  | none =>
    rw [hg] at hR
    show wpAny _ _ (Builtin.Dict.missed d v >>= _) _ _ _
    exact wpAny_bind (wpAny_missed_other nm (wpAny_pure hR))
end
end UP.Dx

set_option Elab.async false
set_option linter.all false
set_option maxRecDepth 100000
set_option maxHeartbeats 4000000
set_option pp.maxSteps 500
/-! ### dicts whose keys are None and tuples: what the walks say of them -/
namespace UP
open PySem PySem.Spec PyProof.Rows L2
mutual
/-- the value v is the key k -/
inductive NK (H : Hp) : NestedKey → V → Prop
  | non : NK H .none .non
  | int (i : Int) : NK H (.num i) (.int i)
  | str (x : Str) : NK H (.text x) (.str x)
  | tup {a : Addr} {xs : List V} {ks : List NestedKey} : H a = some (.tup xs) → NKs H ks xs → NK H (.tup ks) (.ref a)
inductive NKs (H : Hp) : List NestedKey → List V → Prop
  | nil : NKs H [] []
  | cons {k : NestedKey} {v : V} {ks : List NestedKey} {vs : List V} : NK H k v → NKs H ks vs → NKs H (k :: ks) (v :: vs)
end
mutual
theorem NK.at {H H' : Hp} (t : ∀ a xs, H a = some (.tup xs) → H' a = some (.tup xs)) : ∀ {k : NestedKey} {v : V}, NK H k v → NK H' k v
  | _, _, .non => .non
  | _, _, .int i => .int i
  | _, _, .str x => .str x
  | _, _, .tup h r => .tup (t _ _ h) (NKs.at t r)
theorem NKs.at {H H' : Hp} (t : ∀ a xs, H a = some (.tup xs) → H' a = some (.tup xs)) : ∀ {ks : List NestedKey} {vs : List V}, NKs H ks vs → NKs H' ks vs
  | _, _, .nil => .nil
  | _, _, .cons h r => .cons (NK.at t h) (NKs.at t r)
end
mutual
theorem NK.is {P : Program} {w : World} {H : Hp} {h : Heap} (ok : HOk P w H h) : ∀ {k : NestedKey} {v : V} {u : Value}, NK H k v → RelV v u → NestedIs h k u
  | _, _, _, .non, r => by cases (show _ = Value.none from r); exact .none
  | _, _, _, .int i, r => by obtain ⟨t, rfl⟩ := (show ∃ t, _ = Value.int i t from r); exact .int i t
  | _, _, _, .str x, r => by obtain ⟨t, rfl⟩ := (show ∃ t, _ = Value.str x t from r); exact .text x t
  | _, _, _, .tup (a := a) (xs := xs) e q, r => by
    cases (show _ = Value.ref a from r)
    obtain ⟨_, its, rl, o, h1, h2, n, h3⟩ := (show ObjOk P w H h a (.tup xs) from ok a _ e)
    exact .tup h1 h2 h3 (by simpa using NKs.is ok q rl)
theorem NKs.is {P : Program} {w : World} {H : Hp} {h : Heap} (ok : HOk P w H h) : ∀ {ks : List NestedKey} {vs : List V} {us : List Value}, NKs H ks vs → Vals vs us → NestedAll h ks us
  | _, _, _, .nil, .nil => .nil
  | _, _, _, .cons x y, .cons r t => .cons (NK.is ok x r) (NKs.is ok y t)
end
abbrev RowX := NestedKey × V × V
/-- a key as these dicts have it: None or a tuple -/
structure KeyIn (H : Hp) (k : NestedKey) (v : V) : Prop where
  tell : NK H k v
  low : k.depth ≤ 8
  form : v = .non ∨ ∃ a, v = .ref a
theorem KeyIn.at {H H' : Hp} {k : NestedKey} {v : V} (x : KeyIn H k v) (t : ∀ a xs, H a = some (.tup xs) → H' a = some (.tup xs)) : KeyIn H' k v := ⟨x.tell.at t, x.low, x.form⟩
theorem KeyIn.same {H H' : Hp} {k : NestedKey} {v : V} (x : KeyIn H k v) (s : Same H H') : KeyIn H' k v := x.at fun a xs h => s a _ h
theorem KeyIn.is {P : Program} {w : World} {H : Hp} {h : Heap} {k : NestedKey} {v : V} {u : Value} (x : KeyIn H k v) (ok : HOk P w H h) (r : RelV v u) : Dx.KeyAt h k u := by
  refine ⟨x.tell.is ok r, x.low, ?_⟩
  rcases x.form with rfl | ⟨a, rfl⟩
  · exact .inl r
  · exact .inr ⟨a, r⟩
structure RowE (w : World) (r : RowX) (e : DictEntry) : Prop where
  hash : e.hash = r.1.hash w
  key : RelV r.2.1 e.key
  val : RelV r.2.2 e.val
def DX (w : World) (a : Addr) (rows : List RowX) : HO := .ext fun h => (a == sysModules) = false ∧ (rows.map (·.1)).Nodup ∧ ∃ o es ep, h.get? a = some o ∧ o.ExactDict ∧ o.data = .dict es ep ∧ Paired (RowE w) rows es.toList
/-- at a stands a dict with these rows -/
structure DXs (w : World) (H : Hp) (a : Addr) (rows : List RowX) : Prop where
  there : H a = some (DX w a rows)
  keys : ∀ r ∈ rows, KeyIn H r.1 r.2.1
theorem DXs.same {w : World} {H H' : Hp} {a : Addr} {rows : List RowX} (x : DXs w H a rows) (s : Same H H') : DXs w H' a rows := ⟨s a _ x.there, fun r hr => (x.keys r hr).same s⟩
theorem not_tup {w : World} {a : Addr} {rows : List RowX} {xs : List V} : DX w a rows ≠ .tup xs := fun z => by cases z
theorem upd_tups {w : World} {H : Hp} {a : Addr} {rows : List RowX} {o : HO} (h : H a = some (DX w a rows)) : ∀ b xs, H b = some (.tup xs) → upd H a o b = some (.tup xs) := fun b xs e => by
  have n : b ≠ a := fun z => by
    rw [z, h] at e
    exact not_tup (Option.some.inj e)
  rw [upd_ne n]
  exact e
/-- the value at a key -/
def valX (rows : List RowX) (k : NestedKey) : Option V := (Dx.place (rows.map (·.1)) k).bind fun i => rows[i]?.map (·.2.2)
def putX (rows : List RowX) (k : NestedKey) (y v : V) : List RowX := match Dx.place (rows.map (·.1)) k with
  | some i => rows.modify i fun r => (r.1, r.2.1, v)
  | none => rows ++ [(k, y, v)]
theorem valX_none {rows : List RowX} {k : NestedKey} : valX rows k = none ↔ k ∉ rows.map (·.1) := by
  unfold valX
  constructor
  · intro h hm
    cases hp : Dx.place (rows.map (·.1)) k with
    | none => exact Dx.place_none hp hm
    | some i =>
      rw [hp] at h
      have := Dx.place_ok hp
      rw [List.getElem?_map] at this
      cases hr : rows[i]? with
      | none => rw [hr] at this; cases this
      | some r => simp [hr] at h
  · intro h
    rw [Dx.place_no fun i hi => h (List.mem_of_getElem? hi)]
    rfl
theorem valX_isSome {rows : List RowX} {k : NestedKey} : (valX rows k).isSome = decide (k ∈ rows.map (·.1)) := by
  by_cases h : k ∈ rows.map (·.1)
  · rw [decide_eq_true h]
    cases e : valX rows k with
    | none => exact absurd h (valX_none.mp e)
    | some x => rfl
  · rw [decide_eq_false h, valX_none.mpr h]
    rfl
theorem putX_new {rows : List RowX} {k : NestedKey} {y v : V} (h : k ∉ rows.map (·.1)) : putX rows k y v = rows ++ [(k, y, v)] := by
  unfold putX
  rw [Dx.place_no fun i hi => h (List.mem_of_getElem? hi)]
theorem modify_keys {rows : List RowX} {i : Nat} {v : V} : (rows.modify i fun r => (r.1, r.2.1, v)).map (·.1) = rows.map (·.1) := by
  refine List.ext_getElem? fun j => ?_
  rw [List.getElem?_map, List.getElem?_map, List.getElem?_modify]
  cases rows[j]? with
  | none => rfl
  | some r =>
    by_cases c : i = j
    · simp [c]
    · simp [c]
theorem paired_get {α β : Type} {F : α → β → Prop} : ∀ {l : List α} {m : List β} {i : Nat}, Paired F l m → (l[i]? = none ∧ m[i]? = none) ∨ ∃ a b, l[i]? = some a ∧ m[i]? = some b ∧ F a b
  | _, _, _, .nil => .inl ⟨by simp, by simp⟩
  | _, _, 0, .cons h _ => .inr ⟨_, _, rfl, rfl, h⟩
  | _, _, i + 1, .cons _ t => by
    rcases paired_get (i := i) t with ⟨h1, h2⟩ | ⟨a, b, h1, h2, h3⟩
    · exact .inl ⟨by simpa using h1, by simpa using h2⟩
    · exact .inr ⟨a, b, by simpa using h1, by simpa using h2, h3⟩
theorem paired_modify {α β : Type} {F : α → β → Prop} {f : α → α} {g : β → β} (fg : ∀ a b, F a b → F (f a) (g b)) : ∀ {l : List α} {m : List β} (i : Nat), Paired F l m → Paired F (l.modify i f) (m.modify i g)
  | _, _, i, .nil => by cases i <;> exact .nil
  | _, _, 0, .cons h t => .cons (fg _ _ h) t
  | _, _, i + 1, .cons h t => .cons h (paired_modify fg i t)
section
variable {X : Cx} {pins : List (Addr × Obj)} {σ : L2.St} {H : Hp} {s : Shared} {a : Addr} {A : Around} {E : Value → Shared → Prop} {rows : List RowX} {k : NestedKey} {y v : V} {u r : Value} {P : Program} {w : World} {h : Heap}
theorem DXs.ents (D : DXs w H a rows) (ok : HOk P w H h) : (a == sysModules) = false ∧ ∃ es, Dx.DictE w h a es (rows.map (·.1)) ∧ Paired (RowE w) rows es.toList := by
  obtain ⟨⟨hd, nd, o, es, ep, h1, h2, h3, pr⟩, _, _⟩ := (show ObjOk P w H h a (DX w a rows) from ok a _ D.there)
  refine ⟨hd, es, ⟨o, ep, h1, h2, h3, ⟨by rw [List.length_map, Paired.length pr, Array.length_toList], fun i k hi => ?_, nd⟩⟩, pr⟩
  rw [List.getElem?_map] at hi
  rcases paired_get (i := i) pr with ⟨e1, _⟩ | ⟨r, e, e1, e2, e3⟩
  · rw [e1] at hi; cases hi
  · rw [e1] at hi
    cases hi
    exact ⟨e, by simpa using e2, e3.hash, (D.keys r (List.mem_of_getElem? e1)).is ok e3.key⟩
theorem got_rel {es : Array DictEntry} (pr : Paired (RowE w) rows es.toList) (k : NestedKey) : RelO (valX rows k) (Dx.gotE es (rows.map (·.1)) k) := by
  unfold valX Dx.gotE
  cases Dx.place (rows.map (·.1)) k with
  | none => trivial
  | some i =>
    show RelO (rows[i]?.map _) (es[i]?.map _)
    rw [← Array.getElem?_toList]
    rcases paired_get (i := i) pr with ⟨e1, e2⟩ | ⟨r, e, e1, e2, e3⟩
    · rw [e1, e2]; trivial
    · rw [e1, e2]; exact e3.val
theorem put_rel {es : Array DictEntry} (pr : Paired (RowE w) rows es.toList) (ry : RelV y u) (rv : RelV v r) : Paired (RowE w) (putX rows k y v) (Dx.putE w es (rows.map (·.1)) k u r).1.toList ∧ (putX rows k y v).map (·.1) = (Dx.putE w es (rows.map (·.1)) k u r).2 := by
  unfold putX Dx.putE
  cases Dx.place (rows.map (·.1)) k with
  | none =>
    refine ⟨?_, by rw [List.map_append]; rfl⟩
    show Paired _ _ (es.push _).toList
    rw [Array.toList_push]
    exact Paired.snoc pr ⟨rfl, ry, rv⟩
  | some i =>
    refine ⟨?_, modify_keys⟩
    show Paired _ _ (es.modify i _).toList
    rw [Array.toList_modify]
    exact paired_modify (fun x e z => ⟨z.hash, z.key, rv⟩) i pr
theorem putX_keys {x : RowX} (hx : x ∈ putX rows k y v) : x.1 = k ∧ x.2.1 = y ∨ ∃ z ∈ rows, z.1 = x.1 ∧ z.2.1 = x.2.1 := by
  unfold putX at hx
  cases hp : Dx.place (rows.map (·.1)) k with
  | none =>
    rw [hp] at hx
    rcases List.mem_append.mp hx with z | z
    · exact .inr ⟨x, z, rfl, rfl⟩
    · rw [List.mem_singleton.mp z]
      exact .inl ⟨rfl, rfl⟩
  | some i =>
    rw [hp] at hx
    obtain ⟨j, hj⟩ := List.getElem?_of_mem hx
    rw [List.getElem?_modify] at hj
    cases hr : rows[j]? with
    | none => rw [hr] at hj; cases hj
    | some z =>
      rw [hr] at hj
      refine .inr ⟨z, List.mem_of_getElem? hr, ?_⟩
      replace hj : (if i = j then (z.1, z.2.1, v) else z) = x := Option.some.inj hj
      by_cases c : i = j
      · rw [if_pos c] at hj
        rw [← hj]
        exact ⟨rfl, rfl⟩
      · rw [if_neg c] at hj
        rw [← hj]
        exact ⟨rfl, rfl⟩
theorem DXs.put (D : DXs w H a rows) (K : KeyIn H k y) : DXs w (upd H a (DX w a (putX rows k y v))) a (putX rows k y v) :=
  ⟨upd_same, fun x hx => by
    rcases putX_keys hx with ⟨e1, e2⟩ | ⟨z, hz, e1, e2⟩
    · rw [e1, e2]
      exact K.at (upd_tups D.there)
    · rw [← e1, ← e2]
      exact (D.keys z hz).at (upd_tups D.there)⟩
/-- y in d -/
theorem x_in {Q : Value → Shared → Prop} (hu : A.units + 65 < cLine) (I : Inv X pins σ H s) (D : DXs X.w H a rows) (K : KeyIn H k y) (ry : RelV y u) (h : ∀ s', Inv X pins σ H s' → Q (.bool (valX rows k).isSome) s') :
    wpAny (model X.prog X.w) A (compareOp .In u (.ref a)) Q E s := by
  obtain ⟨hd, es, dd, pr⟩ := D.ents I.hok
  refine Dx.has_k (k := k) (by omega) (K.is I.hok ry) hd dd ?_
  rw [← (got_rel pr k).isSome_eq]
  exact h _ (I.tok _)
/-- d[y] -/
theorem x_item {Q : Value → Shared → Prop} (hu : A.units + 65 < cLine) (I : Inv X pins σ H s) (D : DXs X.w H a rows) (K : KeyIn H k y) (ry : RelV y u) (g : valX rows k = some v) (h : ∀ w' s', Inv X pins σ H s' → RelV v w' → Q w' s') :
    wpAny (model X.prog X.w) A (getItem (.ref a) u) Q E s := by
  obtain ⟨hd, es, dd, pr⟩ := D.ents I.hok
  have q := got_rel pr k
  rw [g] at q
  obtain ⟨x, hx, rx⟩ := RelO.some_of q
  exact Dx.item_k (k := k) (by omega) (K.is I.hok ry) dd hx (h x _ (I.tok _) rx)
theorem x_new {es : Array DictEntry} {h' : Heap} (hd : (a == sysModules) = false) (pr : Paired (RowE w) rows es.toList) (dd : Dx.DictE w h' a es (rows.map (·.1))) : ObjOk P w H h' a (DX w a rows) := by
  obtain ⟨o, ep, h1, h2, h3, hE⟩ := dd
  exact ⟨⟨hd, hE.once, o, es, ep, h1, h2, h3, pr⟩, ⟨o, h1⟩, fun _ _ ⟨p1, p2, o, es, ep, q1, q2, q3, q4⟩ st => ⟨p1, p2, o, es, ep, st _ q1, q2, q3, q4⟩⟩
/-- d[y] = v -/
theorem x_setItem {Q : Unit → Shared → Prop} (hu : A.units + 65 < cLine) (I : Inv X pins σ H s) (D : DXs X.w H a rows) (K : KeyIn H k y) (hz : rows.length ≤ sizeLine) (ry : RelV y u) (rv : RelV v r) (h : ∀ s', Inv X pins σ (upd H a (DX X.w a (putX rows k y v))) s' → Q () s') :
    wpAny (model X.prog X.w) A (setItem (.ref a) u r) Q E s := by
  obtain ⟨hd, es, dd, pr⟩ := D.ents I.hok
  refine Dx.put_k (k := k) (by omega) (K.is I.hok ry) dd (by rw [← Array.length_toList, ← Paired.length pr]; exact hz) fun h' dd' sb => h _ ?_
  obtain ⟨p1, p2⟩ := put_rel (k := k) pr ry rv
  refine d_write I (by rw [D.there]; exact True.intro) sb (let ⟨o, _, h1, _⟩ := dd'; ⟨o, h1⟩) (x_new hd p1 ?_)
  rw [p2]
  exact dd'
theorem x_store {Q : Unit → Shared → Prop} (hu : A.units + 65 < cLine) (I : Inv X pins σ H s) (D : DXs X.w H a rows) (K : KeyIn H k y) (hz : rows.length ≤ sizeLine) (ry : RelV y u) (rv : RelV v r) (h : ∀ s', Inv X pins σ (upd H a (DX X.w a (putX rows k y v))) s' → Q () s') :
    wpAny (model X.prog X.w) A (dictSet a u r) Q E s := by
  obtain ⟨hd, es, dd, pr⟩ := D.ents I.hok
  refine Dx.store (k := k) (by omega) (K.is I.hok ry) dd (by rw [← Array.length_toList, ← Paired.length pr]; exact hz) fun h' dd' sb => h _ ?_
  obtain ⟨p1, p2⟩ := put_rel (k := k) pr ry rv
  refine d_write I (by rw [D.there]; exact True.intro) sb (let ⟨o, _, h1, _⟩ := dd'; ⟨o, h1⟩) (x_new hd p1 ?_)
  rw [p2]
  exact dd'
theorem x_typeIs (I : Inv X pins σ H s) (D : DXs X.w H a rows) : s.TypeIs (.ref a) "dict" := by
  obtain ⟨_, es, dd, _⟩ := D.ents I.hok
  exact dd.isDict
theorem x_empty (h : Heap) (hb : sysModules < h.objs.size) : ObjOk P w H (h.push { cls := .type "dict", data := .dict #[] }) h.objs.size (DX w h.objs.size []) :=
  ⟨⟨beq_eq_false_iff_ne.mpr (Ne.symm (Nat.ne_of_lt hb)), List.nodup_nil, _, #[], 0, Heap.get?_push_size _ rfl, ⟨rfl, rfl, rfl⟩, rfl, .nil⟩, ⟨_, Heap.get?_push_size _ rfl⟩, fun _ _ ⟨p1, p2, o, es, ep, q1, q2, q3, q4⟩ st => ⟨p1, p2, o, es, ep, st _ q1, q2, q3, q4⟩⟩
end
/-! readings and rules -/
def rInX (w : World) : V → V → Hp → VK → Prop := fun y x H Q => ∃ (a : Addr) (rows : List RowX) (k : NestedKey), x = .ref a ∧ DXs w H a rows ∧ KeyIn H k y ∧ Q (.bl (valX rows k).isSome) H
def tDGetX (w : World) (td ty : TE) : TE := fun σ H Q => td σ H fun x H1 => ty σ H1 fun y H2 => ∃ (a : Addr) (rows : List RowX) (k : NestedKey) (v : V), x = .ref a ∧ DXs w H2 a rows ∧ KeyIn H2 k y ∧ valX rows k = some v ∧ Q v H2
def sDPutX (w : World) (td ty tv : TE) : TS := fun D σ H => tv σ H fun v H1 => td σ H1 fun x H2 => ty σ H2 fun y H3 => ∃ (a : Addr) (rows : List RowX) (k : NestedKey), x = .ref a ∧ DXs w H3 a rows ∧ KeyIn H3 k y ∧ rows.length ≤ sizeLine ∧ D.nx σ (upd H3 a (DX w a (putX rows k y v)))
def tDNewX (w : World) : TE := fun _ H Q => ∀ p, H p = none → Q (.ref p) (upd H p (DX w p []))
/-- {y: v} -/
def tDOneX (w : World) (ty tv : TE) : TE := fun σ H Q => ∀ p, H p = none → ty σ (upd H p (DX w p [])) fun y H1 => tv σ H1 fun v H2 => H2 p = some (DX w p []) ∧ ∃ k : NestedKey, KeyIn H2 k y ∧ Q (.ref p) (upd H2 p (DX w p [(k, y, v)]))
section
variable {X : Cx} {o i e value : Expr} {pos pos' tpos : Pos} {td ty tv : TE} {w : World}
theorem op_inX (hw : X.w = w) (hu : X.A.units + 65 < cLine) : OpR X (compareOp .In) (rInX w) := by
  subst hw
  rintro pins s σ H y x u r Q I ry rx ⟨a, rows, k, rfl, D, K, q⟩
  cases (show r = Value.ref a from rx)
  exact x_in hu I D K ry fun s' I' => ⟨.bl (valX rows k).isSome, H, I', rfl, q⟩
theorem pe_dgetX (hw : X.w = w) (hu : X.A.units + 65 < cLine) (ho : PE X o td) (hi : PE X i ty) (hs : NoSl i) : PE X (.Subscript o i pos) (tDGetX w td ty) := by
  subst hw
  refine ⟨fun pins s σ H Q I h => ?_⟩
  refine subD_of PySem.F.slot_dict_getitem.lookup hs (thn (ho.run pins s σ H _ I h) fun u s1 ⟨x, H1, I1, rx, q1⟩ => thn (hi.run pins s1 σ H1 _ I1 q1) fun iv s2 ⟨y, H2, I2, ry, a, rows, k, v, ex, D, K, g, q2⟩ => ?_)
  subst ex
  obtain rfl : u = Value.ref a := rx
  exact ⟨x_typeIs I2 D, x_item hu I2 D K ry g fun w' s3 I3 rw' => ⟨v, H2, I3, rw', q2⟩⟩
theorem ps_dputX (hw : X.w = w) (hu : X.A.units + 65 < cLine) (ho : PE X o td) (hi : PE X i ty) (hv : PE X value tv) (hs : swapsWith value (some (.Subscript o i pos')) pos.line X.env = pure false) :
    PS X (.Assign [.Subscript o i pos'] value pos) (sDPutX w td ty tv) := by
  subst hw
  refine ⟨fun pins s σ H D I h => ?_⟩
  refine wpAny_Assign_Subscript (thn (hv.run pins s σ H _ I h) fun r s1 ⟨v, H1, I1, rv, q1⟩ => thn (ho.run pins s1 σ H1 _ I1 q1) fun u s2 ⟨x, H2, I2, rx, q2⟩ => thn (hi.run pins s2 σ H2 _ I2 q2) fun iv s3 ⟨y, H3, I3, ry, a, rows, k, ex, g, K, hz, q3⟩ => ?_) hs
  subst ex
  obtain rfl : u = Value.ref a := rx
  exact x_setItem hu I3 g K hz ry rv fun s4 I4 => ⟨σ, _, I4, q3⟩
theorem pe_dnewX (hw : X.w = w) : PE X (.Dict [] [] pos) (tDNewX w) := by
  subst hw
  exact ⟨fun pins s σ H Q I h => wpAny_Dict_empty ⟨.ref s.heap.objs.size, _, I.laid (a := s.heap.objs.size) (o := DX X.w s.heap.objs.size []) (t' := s.toks) (fun _ _ q => Heap.get?_push_of_some _ q) (Nat.le_refl _) (x_empty s.heap I.big), rfl, h _ (I.hok.fresh (Nat.le_refl _))⟩⟩
theorem pe_doneX (hw : X.w = w) (hu : X.A.units + 65 < cLine) (hk : PE X i ty) (hv : PE X value tv) : PE X (.Dict [some i] [value] pos) (tDOneX w ty tv) := by
  subst hw
  refine ⟨fun pins s σ H Q I q => ?_⟩
  have hn := I.hok.fresh (Nat.le_refl s.heap.objs.size)
  have I1 := I.laid (a := s.heap.objs.size) (o := DX X.w s.heap.objs.size []) (h' := s.heap.push { cls := .type "dict", data := .dict #[] }) (t' := s.toks) (fun _ _ q => Heap.get?_push_of_some _ q) (Nat.le_refl _) (x_empty s.heap I.big)
  refine wpAny_Dict_any rfl rfl (fun z => by cases z) (show 1 ≤ 15 by decide) (pairTrees_cons_walk (thn (hk.run pins _ σ _ _ I1 (q _ hn)) fun u s1 ⟨y, H1, I1, ry, q1⟩ => thn (hv.run pins s1 σ H1 _ I1 q1) fun r s2 ⟨v, H2, I2, rv, e, k, K, q2⟩ => pairTrees_nil_walk ?_))
  unfold storeAll
  rw [List.forIn_cons]
  refine wpAny_bind (wpAny_bind (x_store hu I2 ⟨e, fun r hr => by cases hr⟩ K (Nat.zero_le _) ry rv fun s3 I3 => wpAny_pure ?_))
  show wpAny _ _ (forIn [] PUnit.unit _) _ _ _
  rw [List.forIn_nil]
  exact wpAny_pure ⟨.ref s.heap.objs.size, _, I3, rfl, q2⟩
end
end UP

set_option Elab.async false
set_option linter.all false
set_option maxRecDepth 100000
set_option maxHeartbeats 4000000
set_option pp.maxSteps 500
namespace UP
open PySem PySem.Spec PyProof.Rows L2
/-! ### the growth of a sequence -/
def cntK (rs : List Run) (k : Str) : Int := ((rs.filter fun r => decide (r.1 = k)).map (·.2)).sum
def majK (rs : List Run) (k : Str) : Bool := decide (lenR rs < 2 * cntK rs k)
def grR (rs : List Run) : Option Run := ((rs.map (·.1)).find? (majK rs)).map fun k => (k, 2 * cntK rs k - lenR rs)
theorem cntK_cons (r : Run) (l : List Run) (k : Str) : cntK (r :: l) k = (if r.1 = k then r.2 else 0) + cntK l k := by
  unfold cntK
  rw [List.filter_cons]
  by_cases c : r.1 = k
  · rw [if_pos (decide_eq_true c), if_pos c]
    rfl
  · rw [if_neg (by rw [decide_eq_false c]; decide), if_neg c]
    omega
theorem cntK_it : ∀ {rs : List Run} (k : Str), (∀ r ∈ rs, 1 ≤ r.2) → cntK rs k = (((itR rs).count k : Nat) : Int)
  | [], k, _ => rfl
  | r :: l, k, h => by
    have h1 := h r (List.mem_cons_self ..)
    rw [cntK_cons, cntK_it k fun x hx => h x (List.mem_cons_of_mem _ hx)]
    show _ = (((List.replicate r.2.toNat r.1 ++ itR l).count k : Nat) : Int)
    rw [List.count_append, List.count_replicate]
    by_cases c : r.1 = k
    · rw [if_pos c, if_pos (by rw [c]; exact beq_self_eq_true k)]
      omega
    · rw [if_neg c, if_neg (fun z => c (eq_of_beq z))]
      omega
theorem cntK_pos : ∀ {rs : List Run} {k : Str}, (∀ r ∈ rs, 1 ≤ r.2) → 0 ≤ cntK rs k
  | [], k, _ => Int.le_refl _
  | r :: l, k, h => by
    have h1 := h r (List.mem_cons_self ..)
    have h2 := cntK_pos (rs := l) (k := k) fun x hx => h x (List.mem_cons_of_mem _ hx)
    rw [cntK_cons]
    split <;> omega
theorem cntK_two : ∀ {rs : List Run} {k j : Str}, k ≠ j → (∀ r ∈ rs, 1 ≤ r.2) → cntK rs k + cntK rs j ≤ lenR rs
  | [], k, j, _, _ => Int.le_refl _
  | r :: l, k, j, n, h => by
    have h1 := h r (List.mem_cons_self ..)
    have h2 := cntK_two (rs := l) n fun x hx => h x (List.mem_cons_of_mem _ hx)
    rw [cntK_cons, cntK_cons, lenR_cons]
    by_cases c : r.1 = k
    · rw [if_pos c, if_neg (fun z => n (c.symm.trans z))]
      omega
    · rw [if_neg c]
      split <;> omega
theorem cntK_le {rs : List Run} {k : Str} (h : ∀ r ∈ rs, 1 ≤ r.2) : cntK rs k ≤ lenR rs := by
  induction rs with
  | nil => exact Int.le_refl _
  | cons r l ih =>
    have h1 := h r (List.mem_cons_self ..)
    have h2 := ih fun x hx => h x (List.mem_cons_of_mem _ hx)
    rw [cntK_cons, lenR_cons]
    split <;> omega
theorem kinds_it : ∀ {rs : List Run} {k : Str}, (∀ r ∈ rs, 1 ≤ r.2) → (k ∈ itR rs ↔ k ∈ rs.map (·.1))
  | [], k, _ => Iff.rfl
  | r :: l, k, h => by
    have h1 := h r (List.mem_cons_self ..)
    have h2 := kinds_it (rs := l) (k := k) fun x hx => h x (List.mem_cons_of_mem _ hx)
    show k ∈ List.replicate r.2.toNat r.1 ++ itR l ↔ k ∈ r.1 :: l.map (·.1)
    rw [List.mem_append, List.mem_replicate, h2, List.mem_cons]
    exact ⟨fun z => z.elim (fun z => .inl z.2) .inr, fun z => z.elim (fun z => .inl ⟨by omega, z⟩) .inr⟩
theorem gr_some {rs : List Run} {k : Str} (h : ∀ r ∈ rs, 1 ≤ r.2) (hk : k ∈ rs.map (·.1)) (m : lenR rs < 2 * cntK rs k) : grR rs = some (k, 2 * cntK rs k - lenR rs) := by
  unfold grR
  cases e : (rs.map (·.1)).find? (majK rs) with
  | none => exact absurd (decide_eq_true m) (by simpa [majK] using List.find?_eq_none.mp e k hk)
  | some j =>
    have mj := List.find?_some e
    have mj : lenR rs < 2 * cntK rs j := of_decide_eq_true mj
    have ej : j = k := by
      refine Classical.byContradiction fun n => ?_
      have := cntK_two (rs := rs) n h
      omega
    rw [ej]
    rfl
theorem gr_none {rs : List Run} (h : ∀ k ∈ rs.map (·.1), ¬ lenR rs < 2 * cntK rs k) : grR rs = none := by
  unfold grR
  rw [List.find?_eq_none.mpr fun k hk => by simpa [majK] using h k hk]
  rfl
theorem gr_is {rs : List Run} {g : Run} (h : grR rs = some g) : g.1 ∈ rs.map (·.1) ∧ g.2 = 2 * cntK rs g.1 - lenR rs ∧ 1 ≤ g.2 := by
  unfold grR at h
  cases e : (rs.map (·.1)).find? (majK rs) with
  | none => rw [e] at h; cases h
  | some j =>
    rw [e] at h
    cases h
    have mj := List.find?_some e
    have mj : lenR rs < 2 * cntK rs j := of_decide_eq_true mj
    exact ⟨List.mem_of_find?_eq_some e, rfl, by show 1 ≤ 2 * cntK rs j - lenR rs; omega⟩
theorem mul2 {x : Int} (h0 : 0 ≤ x) (h : x ≤ 400) : CMulW 2 x := wide_mul (a := 2) (b := 10) (by decide) (by omega) (by decide) (by decide) (by decide)
def fallR (rs : List Run) (k : Str) : Int := lenR rs - 2 * cntK rs k
def frR (rs : List Run) : Option Run → Int
  | none => 0
  | some r => if r.2 < lenR rs ∨ fallR rs r.1 ≤ 0 then 0 else (r.2 - lenR rs) / fallR rs r.1 + 1
def fnR (rs : List Run) (st : Option Run) (n : Int) : Option Run := if n = 0 then st else match st with
  | none => none
  | some r => withR r.1 (r.2 - n * fallR rs r.1)
def gfB (rs : List Run) (g st : Option Run) : Bool := match g, st with
  | some g, some r => decide (r.1 = g.1) && decide (lenR rs ≤ r.2)
  | _, _ => false
section
variable {P : Program} {w : World} {K : PySem.W.Frag} {mg : Str → Option Value} {base : Heap}
/-! growth_in: slots 0:runs 1:length 2:kind 3:count -/
abbrev s_growth_in : Stmt := topS 31
theorem sc_growth_in : FnScope ["runs", "length", "kind", "count"] ["runs"] (defScope s_growth_in) := ⟨rfl, rfl, rfl, by decide +kernel, rfl, by decide +kernel, by decide +kernel⟩
def sp_growth_in : Sp := fun vs H Q _ => ∃ (a : Addr) (rs : List Run), vs = [.ref a] ∧ Runs H a rs ∧ SeqOk rs ∧ lenR rs ≤ 400 ∧ ∀ H' v', Same H H' → StV H' v' (grR rs) → Q v' H'
theorem ok_growth_in (D : Df K mg "growth_in" s_growth_in) (G_length_of : Has P w K mg base 1 "length_of" ["runs"] sp_length_of) (G_counts_of : Has P w K mg base 6 "counts_of" ["sequence"] sp_counts_of) : Has P w K mg base 7 "growth_in" ["runs"] sp_growth_in := by
  refine has_of D sc_growth_in (fun _ _ _ _ _ _ us hl => match us, hl with | [_], _ => rfl) (fun vs H Q E h => ?_) (fun f cdv A outer s₀ H vs Q E hr h => ?_)
  · obtain ⟨_, _, rfl, _⟩ := h
    rfl
  · obtain ⟨a, rs, rfl, hR, ok, l400, q⟩ := h
    have l4 := ok.1
    have pos : ∀ r ∈ rs, 1 ≤ r.2 := fun r hr => (ok.2.1 r hr).2.1
    refine ⟨_, (pss_cons (ps_set (i := 1) sc_growth_in.nd rfl (by first | exact Or.inl rfl | exact Or.inr rfl) (pe_callH G_length_of (hr.mono (by omega)) (by rfl) (pa_cons (pv 0) pa_nil)))
    (pss_cons (ps_for PassesOwn.never rfl (pi_list (pe_callH G_counts_of (hr.mono (by omega)) (by rfl) (pa_cons (pv 0) pa_nil))) (pg_tup rfl (pgs_cons (pg_name (i := 2) sc_growth_in.nd rfl (by first | exact Or.inl rfl | exact Or.inr rfl)) (pgs_cons (pg_name (i := 3) sc_growth_in.nd rfl (by first | exact Or.inl rfl | exact Or.inr rfl)) pgs_nil)))
      (pss_one (ps_if (pt_cmpR op_gt (pe_op op_mulW pe_int (pv 3)) (pv 1) (nomark _)) (pss_one (ps_ret (pe_tup (pa_cons (pv 2) (pa_cons (pe_op op_sub (pe_op op_mulW pe_int (pv 3)) (pv 1)) pa_nil))))) pss_nil)))
    (pss_one (ps_ret pe_non)))), ?_⟩
    refine ⟨_, rfl, a, rs, rfl, hR, by omega, fun H1 s1 => ?_⟩
    refine ⟨_, rfl, .ref a, rs, rfl, (hR.same s1).dress, ok, fun H2 p out s2 n2 hp ct so lo => ?_⟩
    obtain ⟨xs, hx, hpr⟩ := hp
    have sA := s1.trans s2
    have val : ∀ e ∈ out, e.2 = cntK rs e.1 := fun e he => by rw [cntK_it e.1 pos]; exact ct.val e he
    have cb : ∀ r ∈ out, 0 ≤ r.2 ∧ r.2 ≤ 400 := fun r hr => by
      rw [val r hr]
      have h1 := cntK_pos (k := r.1) pos
      have h2 := cntK_le (k := r.1) pos
      omega
    refine ⟨p, rfl, ⟨xs, .of hx⟩, for_list (K := K) (a := p) (xs := xs) (fun i σ H' => ∃ y2 y3, σ = [some (.ref a), some (.int (lenR rs)), y2, y3] ∧ Same H2 H' ∧ ∀ (j : Nat) (e : Run), j < i → out[j]? = some e → ¬ lenR rs < 2 * e.2) ⟨none, none, rfl, Same.refl _, fun j e hj => absurd hj (Nat.not_lt_zero _)⟩ (fun i σ H' _ hP => ?_) (fun i x σ H3 ex hP => ?_) (fun σ H3 hP => ?_)⟩
    · obtain ⟨_, _, _, sm, _⟩ := hP
      exact .of (sm _ _ hx)
    · obtain ⟨y2, y3, rfl, sm, no⟩ := hP
      obtain ⟨r, er, hr1⟩ := Paired.at hpr ex
      obtain ⟨t, rfl, ht⟩ := RunV.same sm hr1
      have hm := List.mem_of_getElem? er
      refine ⟨t, _, rfl, .of ht, rfl, _, _, rfl, _, _, rfl, rfl, ?_⟩
      refine ⟨_, rfl, _, _, rfl, rfl, mul2 (cb _ hm).1 (cb _ hm).2, _, rfl, _, _, rfl, rfl, _, rfl, ?_⟩
      by_cases c : lenR rs < 2 * r.2
      · refine iteP (decide_eq_true c) ?_
        refine ⟨_, rfl, _, rfl, _, _, rfl, rfl, mul2 (cb _ hm).1 (cb _ hm).2, _, rfl, _, _, rfl, rfl, (by show 2 ≤ sizeLine; decide), fun n nn => ?_⟩
        have hk : r.1 ∈ rs.map (·.1) := (kinds_it pos).mp ((ct.cov r.1).mpr (List.mem_map.mpr ⟨r, hm, rfl⟩))
        rw [val r hm] at c
        have q := fun o => q (upd H3 n o) (.ref n) ((sA.trans sm).trans (same_upd nn))
        simp only [gr_some pos hk c] at q
        rw [val r hm]
        exact q _ ⟨n, rfl, upd_same⟩
      · refine iteN (decide_eq_false c) ⟨_, _, rfl, sm, fun j e hj ee => ?_⟩
        by_cases z : j = i
        · rw [z, er] at ee
          cases ee
          exact c
        · exact no j e (by omega) ee
    · obtain ⟨y2, y3, rfl, sm, no⟩ := hP
      have lx : xs.length = out.length := Paired.len hpr
      have e0 : grR rs = none := gr_none fun k hk => by
        obtain ⟨e, he, ee⟩ := List.mem_map.mp ((ct.cov k).mp ((kinds_it pos).mpr hk))
        obtain ⟨j, hj⟩ := List.getElem?_of_mem he
        have := no j e (by rw [lx]; exact (List.getElem?_eq_some_iff.mp hj).1) hj
        rw [val e he, ee] at this
        exact this
      have q := q _ .non (sA.trans sm)
      rw [e0] at q
      exact q rfl
/-! fall_of: slots 0:runs 1:kind 2:each 3:count -/
abbrev s_fall_of : Stmt := topS 32
theorem sc_fall_of : FnScope ["runs", "kind", "each", "count"] ["runs", "kind"] (defScope s_fall_of) := ⟨rfl, rfl, rfl, by decide +kernel, rfl, by decide +kernel, by decide +kernel⟩
def sp_fall_of : Sp := fun vs H Q _ => ∃ (a : Addr) (rs : List Run) (k : Str), vs = [.ref a, .str k] ∧ Runs H a rs ∧ SeqOk rs ∧ lenR rs ≤ 400 ∧ ∀ H', Same H H' → Q (.int (fallR rs k)) H'
theorem ok_fall_of (D : Df K mg "fall_of" s_fall_of) (T : Tx mg) (G_length_of : Has P w K mg base 1 "length_of" ["runs"] sp_length_of) : Has P w K mg base 2 "fall_of" ["runs", "kind"] sp_fall_of := by
  refine has_of D sc_fall_of (fun _ _ _ _ _ _ us hl => match us, hl with | [_, _], _ => rfl) (fun vs H Q E h => ?_) (fun f cdv A outer s₀ H vs Q E hr h => ?_)
  · obtain ⟨_, _, _, rfl, _⟩ := h
    rfl
  · obtain ⟨a, rs, k, rfl, hR, ok, l400, q⟩ := h
    have l4 := ok.1
    have pos : ∀ r ∈ rs, 1 ≤ r.2 := fun r hr => (ok.2.1 r hr).2.1
    refine ⟨_, (pss_one (ps_ret (pe_op op_sub (pe_callH G_length_of (hr.mono (by omega)) (by rfl) (pa_cons (pv 0) pa_nil)) (pe_op op_mulW pe_int (pe_callB (cr_sum rfl) (by rfl) T.n_sum (by decide +kernel) (pa_cons (pe_lc (own := [("each", 2), ("count", 3)]) rfl sc_fall_of.nd (pi_list (pv 0)) (blkOk_by (N := ["runs", "kind", "each", "count"]) (sc := defScope s_fall_of) (by decide +kernel)) (fun _ _ _ _ _ => (pg_tupK (K := K) (n := 2) rfl rfl (pgs_cons (pg_name (i := 2) sc_fall_of.nd rfl (by first | exact Or.inl rfl | exact Or.inr rfl)) (pgs_cons (pg_name (i := 3) sc_fall_of.nd rfl (by first | exact Or.inl rfl | exact Or.inr rfl)) pgs_nil)))) (fun _ _ _ _ _ => pts_one (pt_cmpR op_eq (pv 2) (pv 1) (nomark _))) (fun _ _ _ _ _ => (pv 3))) pa_nil)))))), ?_⟩
    refine ⟨_, rfl, a, rs, rfl, hR, by omega, fun H1 s1 => ?_⟩
    obtain ⟨xs, hx, hp⟩ := hR.same s1
    have lx : xs.length = rs.length := Paired.len hp
    refine ⟨_, rfl, a, rfl, ⟨xs, .of hx⟩, fun L nL => lc_list (K := K) (a := a) (xs := xs) (fun i H' => Same H1 H' ∧ H' L = some (.lst ((((rs.take i).filter fun r => decide (r.1 = k)).map (·.2)).map V.int))) ⟨same_upd nL, upd_same⟩ (fun i H' _ p => .of (p.1 _ _ hx)) (fun i x H2 ex p => ?_) (fun H2 p => ?_)⟩
    · obtain ⟨sm, hL⟩ := p
      obtain ⟨r, er, hr1⟩ := Paired.at hp ex
      have hi : i < xs.length := (List.getElem?_eq_some_iff.mp ex).1
      obtain ⟨t, rfl, ht⟩ := RunV.same sm hr1
      have ln := List.length_filter_le (fun r : Run => decide (r.1 = k)) (rs.take i)
      rw [List.length_take] at ln
      refine ⟨t, _, rfl, .of ht, rfl, _, _, rfl, _, _, rfl, rfl, rfl, _, rfl, _, rfl, rfl, _, rfl, ite2 (fun e => ?_) (fun e => ?_)⟩
      · have e : r.1 = k := V.str.inj (of_decide_eq_true e)
        refine ⟨_, rfl, _, hL, ?_, same_grow nL sm, ?_⟩
        · rw [List.length_map, List.length_map]
          exact small (by omega)
        · rw [upd_same, take_snoc er, List.filter_append, List.filter_cons, if_pos (decide_eq_true e), List.map_append, List.map_append]
          rfl
      · have e : ¬ r.1 = k := fun z => e (decide_eq_true (by rw [z]))
        refine ⟨sm, ?_⟩
        rw [take_snoc er, List.filter_append, List.filter_cons, if_neg (by rw [decide_eq_false e]; decide), List.filter_nil, List.append_nil]
        exact hL
    · have e0 := p.2
      rw [lx, List.take_length] at e0
      have c1 := cntK_pos (k := k) pos
      have c2 := cntK_le (k := k) pos
      exact ⟨L, _, rfl, .of e0, _, _, rfl, rfl, mul2 (x := cntK rs k) c1 (by omega), _, _, rfl, rfl, q H2 (s1.trans p.1)⟩
end
end UP

set_option Elab.async false
set_option linter.all false
set_option maxRecDepth 100000
set_option maxHeartbeats 4000000
set_option pp.maxSteps 500
namespace UP
open PySem PySem.Spec PyProof.Rows L2
/-- a state whose number may be multiplied -/
def StW (st : Option Run) : Prop := ∀ r, st = some r → 1 ≤ r.2 ∧ r.2.natAbs < 2 ^ 400000
section
variable {P : Program} {w : World} {K : PySem.W.Frag} {mg : Str → Option Value} {base : Heap}
/-! falling_rounds: slots 0:runs 1:state -/
abbrev s_falling_rounds : Stmt := topS 33
theorem sc_falling_rounds : FnScope ["runs", "state"] ["runs", "state"] (defScope s_falling_rounds) := ⟨rfl, rfl, rfl, by decide +kernel, rfl, by decide +kernel, by decide +kernel⟩
def sp_falling_rounds : Sp := fun vs H Q _ => ∃ (a : Addr) (rs : List Run) (v : V) (st : Option Run), vs = [.ref a, v] ∧ Runs H a rs ∧ SeqOk rs ∧ lenR rs ≤ 400 ∧ StV H v st ∧ ∀ H', Same H H' → Q (.int (frR rs st)) H'
theorem ok_falling_rounds (D : Df K mg "falling_rounds" s_falling_rounds) (G_length_of : Has P w K mg base 1 "length_of" ["runs"] sp_length_of) (G_fall_of : Has P w K mg base 2 "fall_of" ["runs", "kind"] sp_fall_of) : Has P w K mg base 3 "falling_rounds" ["runs", "state"] sp_falling_rounds := by
  refine has_of D sc_falling_rounds (fun _ _ _ _ _ _ us hl => match us, hl with | [_, _], _ => rfl) (fun vs H Q E h => ?_) (fun f cdv A outer s₀ H vs Q E hr h => ?_)
  · obtain ⟨_, _, _, _, rfl, _⟩ := h
    rfl
  · obtain ⟨a, rs, v, st, rfl, hR, ok, l400, hv, q⟩ := h
    have l4 := ok.1
    have pos : ∀ r ∈ rs, 1 ≤ r.2 := fun r hr => (ok.2.1 r hr).2.1
    refine ⟨_, (pss_cons (ps_if (PW.pt (pw_or (pt_cmpR op_isN (pv 1) pe_non (nomark _)) (pw_or (pt_cmpR op_lt (pe_ix ix_tup (pv 1) pe_int (fun _ _ => rfl)) (pe_callH G_length_of (hr.mono (by omega)) (by rfl) (pa_cons (pv 0) pa_nil)) (nomark _)) (pw_or1 (pt_cmpR op_le (pe_callH G_fall_of (hr.mono (by omega)) (by rfl) (pa_cons (pv 0) (pa_cons (pe_ix ix_tup (pv 1) pe_int (fun _ _ => rfl)) pa_nil))) pe_int (nomark _)))))) (pss_one (ps_ret pe_int)) pss_nil)
    (pss_one (ps_ret (pe_op op_add (pe_op op_fdivW (pe_op op_sub (pe_ix ix_tup (pv 1) pe_int (fun _ _ => rfl)) (pe_callH G_length_of (hr.mono (by omega)) (by rfl) (pa_cons (pv 0) pa_nil))) (pe_callH G_fall_of (hr.mono (by omega)) (by rfl) (pa_cons (pv 0) (pa_cons (pe_ix ix_tup (pv 1) pe_int (fun _ _ => rfl)) pa_nil)))) pe_int)))), ?_⟩
    cases st with
    | none =>
      cases hv
      exact ⟨_, rfl, rfl, _, rfl, iteP rfl (iteP rfl (q _ (Same.refl _)))⟩
    | some r =>
      obtain ⟨t, rfl, ht⟩ := hv
      refine ⟨_, rfl, rfl, _, rfl, iteN rfl ?_⟩
      refine ⟨_, rfl, t, _, 1, _, rfl, rfl, .of ht, at1, _, rfl, a, rs, rfl, hR, by omega, fun H1 s1 => ⟨_, _, rfl, rfl, _, rfl, ?_⟩⟩
      by_cases c1 : r.2 < lenR rs
      · rw [show frR rs (some r) = 0 from if_pos (.inl c1)] at q
        exact iteP (decide_eq_true c1) (iteP rfl (q _ s1))
      · refine iteN (decide_eq_false c1) ?_
        refine ⟨_, rfl, _, rfl, t, _, 0, _, rfl, rfl, .of (s1 _ _ ht), at0, a, rs, r.1, rfl, hR.same s1, ok, l400, fun H2 s2 => ⟨_, _, rfl, rfl, _, rfl, ?_⟩⟩
        by_cases c2 : fallR rs r.1 ≤ 0
        · rw [show frR rs (some r) = 0 from if_pos (.inr c2)] at q
          exact iteP (decide_eq_true c2) (q _ (s1.trans s2))
        · rw [show frR rs (some r) = (r.2 - lenR rs) / fallR rs r.1 + 1 from if_neg (fun z => z.elim c1 c2)] at q
          refine iteN (decide_eq_false c2) ?_
          have s12 := s1.trans s2
          have fb : (fallR rs r.1).natAbs < 2 ^ 10 := by
            have c3 := cntK_pos (k := r.1) pos
            have e : fallR rs r.1 = lenR rs - 2 * cntK rs r.1 := rfl
            omega
          refine ⟨_, rfl, t, _, 1, _, rfl, rfl, .of (s12 _ _ ht), at1, _, rfl, a, rs, rfl, hR.same s12, by omega, fun H3 s3 => ⟨_, _, rfl, rfl, ?_⟩⟩
          have s13 := s12.trans s3
          refine ⟨_, rfl, _, rfl, t, _, 0, _, rfl, rfl, .of (s13 _ _ ht), at0, a, rs, r.1, rfl, hR.same s13, ok, l400, fun H4 s4 => ⟨_, _, rfl, rfl, wide_div (b := 10) (by omega) fb (by decide) (by decide), _, _, rfl, rfl, q _ (s13.trans s4)⟩⟩
/-! fallen: slots 0:runs 1:state 2:rounds -/
abbrev s_fallen : Stmt := topS 34
theorem sc_fallen : FnScope ["runs", "state", "rounds"] ["runs", "state", "rounds"] (defScope s_fallen) := ⟨rfl, rfl, rfl, by decide +kernel, rfl, by decide +kernel, by decide +kernel⟩
def sp_fallen : Sp := fun vs H Q _ => ∃ (a : Addr) (rs : List Run) (v : V) (st : Option Run) (n : Int), vs = [.ref a, v, .int n] ∧ Runs H a rs ∧ SeqOk rs ∧ lenR rs ≤ 400 ∧ StV H v st ∧ (n ≠ 0 → st ≠ none) ∧ n.natAbs < 2 ^ 500000 ∧ ∀ H' v', Same H H' → StV H' v' (fnR rs st n) → Q v' H'
theorem ok_fallen (D : Df K mg "fallen" s_fallen) (G_state_with : Has P w K mg base 1 "state_with" ["kind", "number"] sp_state_with) (G_fall_of : Has P w K mg base 2 "fall_of" ["runs", "kind"] sp_fall_of) : Has P w K mg base 3 "fallen" ["runs", "state", "rounds"] sp_fallen := by
  refine has_of D sc_fallen (fun _ _ _ _ _ _ us hl => match us, hl with | [_, _, _], _ => rfl) (fun vs H Q E h => ?_) (fun f cdv A outer s₀ H vs Q E hr h => ?_)
  · obtain ⟨_, _, _, _, _, rfl, _⟩ := h
    rfl
  · obtain ⟨a, rs, v, st, n, rfl, hR, ok, l400, hv, ne, nb, q⟩ := h
    have l4 := ok.1
    have pos : ∀ r ∈ rs, 1 ≤ r.2 := fun r hr => (ok.2.1 r hr).2.1
    refine ⟨_, (pss_cons (ps_if (pt_cmpR op_eq (pv 2) pe_int (nomark _)) (pss_one (ps_ret (pv 1))) pss_nil)
    (pss_one (ps_ret (pe_callH G_state_with (hr.mono (by omega)) (by rfl) (pa_cons (pe_ix ix_tup (pv 1) pe_int (fun _ _ => rfl)) (pa_cons (pe_op op_sub (pe_ix ix_tup (pv 1) pe_int (fun _ _ => rfl)) (pe_op op_mulW (pv 2) (pe_callH G_fall_of (hr.mono (by omega)) (by rfl) (pa_cons (pv 0) (pa_cons (pe_ix ix_tup (pv 1) pe_int (fun _ _ => rfl)) pa_nil))))) pa_nil)))))), ?_⟩
    refine ⟨_, rfl, rfl, _, rfl, ?_⟩
    by_cases e : n = 0
    · rw [show fnR rs st n = st from if_pos e] at q
      exact iteP (decide_eq_true (by rw [e])) ⟨_, rfl, q _ _ (Same.refl _) hv⟩
    · refine iteN (decide_eq_false fun z => e (V.int.inj z)) ?_
      cases st with
      | none => exact absurd rfl (ne e)
      | some r =>
        rw [show fnR rs (some r) n = withR r.1 (r.2 - n * fallR rs r.1) from if_neg e] at q
        obtain ⟨t, rfl, ht⟩ := hv
        have fb : (fallR rs r.1).natAbs < 2 ^ 10 := by
          have c3 := cntK_pos (k := r.1) pos
          have c4 := cntK_le (k := r.1) pos
          have e : fallR rs r.1 = lenR rs - 2 * cntK rs r.1 := rfl
          omega
        refine ⟨_, rfl, t, _, 0, _, rfl, rfl, .of ht, at0, _, rfl, t, _, 1, _, rfl, rfl, .of ht, at1, _, rfl, _, rfl, _, rfl, t, _, 0, _, rfl, rfl, .of ht, at0, a, rs, r.1, rfl, hR, ok, l400, fun H1 s1 => ?_⟩
        refine ⟨_, _, rfl, rfl, wide_mul nb fb (by decide) (by decide) (by decide), _, _, rfl, rfl, _, _, rfl, fun H2 v2 s2 h2 => q _ _ (s1.trans s2) h2⟩
/-! grows_for_good: slots 0:runs 1:growth 2:state -/
abbrev s_grows_for_good : Stmt := topS 35
theorem sc_grows_for_good : FnScope ["runs", "growth", "state"] ["runs", "growth", "state"] (defScope s_grows_for_good) := ⟨rfl, rfl, rfl, by decide +kernel, rfl, by decide +kernel, by decide +kernel⟩
def sp_grows_for_good : Sp := fun vs H Q _ => ∃ (a : Addr) (rs : List Run) (v u : V) (g st : Option Run), vs = [.ref a, v, u] ∧ Runs H a rs ∧ SeqOk rs ∧ StV H v g ∧ StV H u st ∧ ∀ H', Same H H' → Q (.bl (gfB rs g st)) H'
theorem ok_grows_for_good (D : Df K mg "grows_for_good" s_grows_for_good) (G_length_of : Has P w K mg base 1 "length_of" ["runs"] sp_length_of) : Has P w K mg base 2 "grows_for_good" ["runs", "growth", "state"] sp_grows_for_good := by
  refine has_of D sc_grows_for_good (fun _ _ _ _ _ _ us hl => match us, hl with | [_, _, _], _ => rfl) (fun vs H Q E h => ?_) (fun f cdv A outer s₀ H vs Q E hr h => ?_)
  · obtain ⟨_, _, _, _, _, _, rfl, _⟩ := h
    rfl
  · obtain ⟨a, rs, v, u, g, st, rfl, hR, ok, hv, hu, q⟩ := h
    have l4 := ok.1
    refine ⟨_, (pss_one (ps_ret (pe_and (pe_cmpR op_notN (pv 1) pe_non (nomark _)) (pe_and (pe_cmpR op_notN (pv 2) pe_non (nomark _)) (pe_and (pe_cmpR op_eq (pe_ix ix_tup (pv 2) pe_int (fun _ _ => rfl)) (pe_ix ix_tup (pv 1) pe_int (fun _ _ => rfl)) (nomark _)) (pe_one (pe_cmpR op_ge (pe_ix ix_tup (pv 2) pe_int (fun _ _ => rfl)) (pe_callH G_length_of (hr.mono (by omega)) (by rfl) (pa_cons (pv 0) pa_nil)) (nomark _)))))))), ?_⟩
    cases g with
    | none =>
      cases hv
      exact ⟨_, rfl, rfl, _, rfl, iteN rfl (q _ (Same.refl _))⟩
    | some g =>
      obtain ⟨t, rfl, ht⟩ := hv
      refine ⟨_, rfl, rfl, _, rfl, iteP rfl ?_⟩
      cases st with
      | none =>
        cases hu
        exact ⟨_, rfl, rfl, _, rfl, iteN rfl (q _ (Same.refl _))⟩
      | some r =>
        obtain ⟨t2, rfl, ht2⟩ := hu
        refine ⟨_, rfl, rfl, _, rfl, iteP rfl ?_⟩
        refine ⟨_, rfl, t2, _, 0, _, rfl, rfl, .of ht2, at0, _, rfl, t, _, 0, _, rfl, rfl, .of ht, at0, rfl, _, rfl, ?_⟩
        by_cases c : r.1 = g.1
        · refine iteP (decide_eq_true (by rw [c])) ?_
          refine ⟨_, rfl, t2, _, 1, _, rfl, rfl, .of ht2, at1, _, rfl, a, rs, rfl, hR, by omega, fun H1 s1 => ⟨_, _, rfl, rfl, ?_⟩⟩
          have q := q _ s1
          rw [show gfB rs (some g) (some r) = decide (lenR rs ≤ r.2) by show (decide (r.1 = g.1) && decide (lenR rs ≤ r.2)) = _; rw [decide_eq_true c]; rfl] at q
          exact q
        · refine iteN (decide_eq_false fun z => c (V.str.inj z)) ?_
          have q := q _ (Same.refl _)
          rw [show gfB rs (some g) (some r) = false by show (decide (r.1 = g.1) && decide (lenR rs ≤ r.2)) = _; rw [decide_eq_false c]; rfl] at q
          exact q
end
end UP

set_option Elab.async false
set_option linter.all false
set_option maxRecDepth 100000
set_option maxHeartbeats 4000000
set_option pp.maxSteps 500
namespace UP
open PySem PySem.Spec PyProof.Rows L2
/-- a def whose last parameter has the default dv -/
def HasDv (dv : V) (P : Program) (w : World) (K : PySem.W.Frag) (mg : Str → Option Value) (base : Heap) (k : Nat) (x : Str) (ps : List Str) (n : Nat) (sp : Sp) : Prop :=
  ∃ f fd, mg x = some (.ref f) ∧ PySem.W.keepIn K (.ref f) = true ∧ Binds K fd ps [] ∧ (∃ ds, Vals [dv] ds ∧ Binds K fd ps ds) ∧ FnOk P w K mg base CX0 k f fd ps sp
section
variable {P : Program} {w : World} {K : PySem.W.Frag} {mg : Str → Option Value} {base : Heap}
theorem HasDv.has {dv : V} {k n : Nat} {x : Str} {ps : List Str} {sp : Sp} (h : HasDv dv P w K mg base k x ps n sp) : Has P w K mg base k x ps sp := by
  obtain ⟨f, fd, g, kp, b, _, F⟩ := h
  exact ⟨f, fd, g, kp, b, F⟩
theorem hasDv_of {dv : V} {x : Str} {st : Stmt} {ps N : List Str} {k n : Nat} {sp : Sp} (D : DfD K mg x st [dv]) (S : FnScope N ps (defScope st)) (hpn : ps.length = n + 1)
    (hb : ∀ (T : Addr) (kV doc pm : Value) (an : Option Addr) (cdv ct : Value) (us its : List Value), us.length = n + 1 → its.length = 1 →
      ∃ k, bindArgs (PySem.W.fnOf x x (defArgs st) (defBody st) (defScope st) (.ref T) kV doc pm an cdv ct) ⟨us, []⟩ = seqItems? (.ref T) >>= k ∧ k (some its.toArray) = pure (ps.zip us))
    (hb1 : ∀ (T : Addr) (kV doc pm : Value) (an : Option Addr) (cdv ct : Value) (us its : List Value), us.length = n → its.length = 1 →
      ∃ k, bindArgs (PySem.W.fnOf x x (defArgs st) (defBody st) (defScope st) (.ref T) kV doc pm an cdv ct) ⟨us, []⟩ = seqItems? (.ref T) >>= k ∧ k (some its.toArray) = pure (ps.zip (us ++ its)))
    (len : ∀ vs H Q E, sp vs H Q E → vs.length = ps.length)
    (body : ∀ (f : Addr) (cdv : Value) (A : Around) (outer : List Env) (s : Shared) (H : Hp) (vs : List V) (Q : VK) (E : XK), Room k (A.deeper (envOfC x (defScope st) s.heap.objs.size f cdv)) → sp vs H Q E →
      ∃ t, PSs (cxOf CX0 P w K mg base N x (defScope st) f cdv A outer s H E).nox (defBody st) t ∧ t { nx := fun _ H' => Q .non H', rt := Q } (start N vs) H) :
    HasDv dv P w K mg base (k + 1) x ps n sp := by
  obtain ⟨f, fd, g, F⟩ := D
  have B0 : Binds K fd ps [] := by
    obtain ⟨ds, v, b⟩ := F.binds1 (n + 1) 1 (ps := ps) (by intro z; cases z) (by rw [hpn]; rfl) fun T kV doc pm an cdv ct us its h1 h2 => by
      obtain ⟨k, e1, e2⟩ := hb T kV doc pm an cdv ct us its h1 h2
      refine ⟨k, e1, ?_⟩
      have h3 : its.length ≤ 1 := Nat.le_of_eq h2
      rw [e2, List.drop_of_length_le h3, List.append_nil]
    cases v
    exact b
  have B1 : ∃ ds, Vals [dv] ds ∧ Binds K fd ps ds := by
    obtain ⟨ds, v, b⟩ := F.binds1 n 0 (ps := ps) (by intro z; cases z) (by rw [hpn]; rfl) fun T kV doc pm an cdv ct us its h1 h2 => by
      obtain ⟨k, e1, e2⟩ := hb1 T kV doc pm an cdv ct us its h1 h2
      exact ⟨k, e1, by rw [e2, List.drop_zero]⟩
    exact ⟨ds, v, b⟩
  refine ⟨f, fd, g, F.kp, B0, B1, F.ok S len fun cdv A outer s H vs Q E hr h => ?_⟩
  obtain ⟨t, p, q⟩ := body f cdv A outer s H vs Q E hr h
  exact ⟨t, p.nox, q⟩
end
section
variable {X : Cx}
theorem pe_callDv {dv : V} {k n : Nat} {x : Str} {ps : List Str} {sp : Sp} {p pos : Pos} {e : Expr} {es : List Expr} {t : TA} (G : HasDv dv X.prog X.w X.K X.mg X.base k x ps n sp) (hr : Room k X.A) (hg : Gl X x) (ha : PA X (e :: es) t)
    (hdb : (x == ("__debug__" : Str)) = false := by decide) (he : starEach (e :: es) X.env = (false, eval e X.env) :: starEach es X.env := by rfl) (hpl : (backTo pos (starEach es X.env)).any (·.1) = false := by rfl) :
    PE X (.Call (.Name x p) (e :: es) [] pos) (tCall sp [dv] E0 t) := by
  obtain ⟨f, fd, g, kp, _, ⟨ds, v, b⟩, F⟩ := G
  exact pe_call F hr hg g kp b v pass0 ha hdb he hpl
theorem room65 {A : Around} {k : Nat} (hr : Room k A) : A.units + 65 < cLine := by
  have := hr.un
  omega
end
/-! ### the states round by round -/
def itS (rs : List Run) (st : Option Run) : Nat → Option Run
  | 0 => st
  | n + 1 => stR rs (itS rs st n)
/-- the course ends with the n-th state -/
structure CEnd (rs : List Run) (g : Option Run) (most : Int) (st : Option Run) (n : Nat) : Prop where
  go : ∀ i, i < n → (i : Int) + 1 ≤ most ∧ gfB rs g (itS rs st i) = false ∧ ∀ j, j < i → itS rs st j ≠ itS rs st i
  stop : most < (n : Int) + 1 ∨ gfB rs g (itS rs st n) = true ∨ ∃ j, j < n ∧ itS rs st j = itS rs st n
def Sts (H : Hp) (p : Addr) (l : List (Option Run)) : Prop := ∃ xs, H p = some (.lst xs) ∧ Paired (StV H) xs l
def courseR (rs : List Run) (st : Option Run) (n : Nat) : List (Option Run) := (List.range (n + 1)).map (itS rs st)
def keyR : Option Run → NestedKey
  | none => .none
  | some r => .tup [.text r.1, .num r.2]
theorem keyR_inj {a b : Option Run} (h : keyR a = keyR b) : a = b := by
  cases a with
  | none => cases b with
    | none => rfl
    | some s => cases h
  | some r => cases b with
    | none => cases h
    | some s =>
      obtain ⟨r1, r2⟩ := r
      obtain ⟨s1, s2⟩ := s
      simp only [keyR, NestedKey.tup.injEq, List.cons.injEq, NestedKey.text.injEq, NestedKey.num.injEq] at h
      rw [h.1, h.2.1]
theorem key_st {H : Hp} {v : V} {st : Option Run} (h : StV H v st) : KeyIn H (keyR st) v := by
  cases st with
  | none =>
    cases h
    exact ⟨.non, by decide, .inl rfl⟩
  | some r =>
    obtain ⟨t, rfl, ht⟩ := h
    exact ⟨.tup ht (.cons (.str _) (.cons (.int _) .nil)), by show NestedKey.depth (.tup [.text r.1, .num r.2]) ≤ 8; simp [NestedKey.depth, NestedKey.depthAll], .inr ⟨t, rfl⟩⟩
/-- all but two objects stay -/
def But2 (p d : Addr) (H H' : Hp) : Prop := ∀ b o, b ≠ p → b ≠ d → H b = some o → H' b = some o
theorem But2.trans {p d : Addr} {H H1 H2 : Hp} (a : But2 p d H H1) (b : But2 p d H1 H2) : But2 p d H H2 := fun c o n1 n2 h => b c o n1 n2 (a c o n1 n2 h)
theorem But2.of {p d : Addr} {H H' : Hp} (s : Same H H') : But2 p d H H' := fun c o _ _ h => s c o h
theorem But2.p {p d : Addr} {H : Hp} {o : HO} : But2 p d H (upd H p o) := fun c u n1 _ h => by rw [upd_ne n1]; exact h
theorem But2.d {p d : Addr} {H : Hp} {o : HO} : But2 p d H (upd H d o) := fun c u _ n2 h => by rw [upd_ne n2]; exact h
/-- neither of the two is a tuple -/
def NoTup (H : Hp) (p : Addr) : Prop := ∀ xs, H p ≠ some (.tup xs)
theorem StV.but2 {p d : Addr} {H H' : Hp} {v : V} {st : Option Run} (b : But2 p d H H') (np : NoTup H p) (nd : NoTup H d) (h : StV H v st) : StV H' v st := by
  cases st with
  | none => exact h
  | some r =>
    obtain ⟨t, rfl, ht⟩ := h
    exact ⟨t, rfl, b _ _ (fun z => np _ (z ▸ ht)) (fun z => nd _ (z ▸ ht)) ht⟩
theorem sts_but2 {p d : Addr} {H H' : Hp} {xs : List V} {l : List (Option Run)} (b : But2 p d H H') (np : NoTup H p) (nd : NoTup H d) (h : Paired (StV H) xs l) : Paired (StV H') xs l := Paired.imp (fun _ _ => StV.but2 b np nd) h
theorem noTup_lst {H : Hp} {p : Addr} {xs : List V} (h : H p = some (.lst xs)) : NoTup H p := fun ys z => by rw [h] at z; cases z
theorem noTup_dx {w : World} {H : Hp} {p : Addr} {rows : List RowX} (h : H p = some (DX w p rows)) : NoTup H p := fun ys z => by rw [h] at z; cases z
section
variable {P : Program} {w : World} {K : PySem.W.Frag} {mg : Str → Option Value} {base : Heap}
/-! course_of: slots 0:runs 1:growth 2:state 3:most 4:states 5:seen -/
abbrev s_course_of : Stmt := topS 36
theorem sc_course_of : FnScope ["runs", "growth", "state", "most", "states", "seen"] ["runs", "growth", "state", "most"] (defScope s_course_of) := ⟨rfl, rfl, rfl, by decide +kernel, rfl, by decide +kernel, by decide +kernel⟩
def sp_course_of : Sp := fun vs H Q _ => ∃ (a : Addr) (rs : List Run) (gv v : V) (g st : Option Run) (most : Int) (n : Nat), vs = [.ref a, gv, v, .int most] ∧ Runs H a rs ∧ SeqOk rs ∧ StV H gv g ∧ StV H v st ∧ CEnd rs g most st n ∧ n ≤ 400000 ∧
  ∀ H' p, Same H H' → H p = none → Sts H' p (courseR rs st n) → Q (.ref p) H'
theorem ok_course_of (D : DfD K mg "course_of" s_course_of [.int 1000000000000000000000000000000]) (T : Tx mg) (G_grows_for_good : Has P w K mg base 2 "grows_for_good" ["runs", "growth", "state"] sp_grows_for_good) (G_state_after_runs : Has P w K mg base 3 "state_after_runs" ["runs", "state"] sp_state_after_runs) :
    HasDv (.int 1000000000000000000000000000000) P w K mg base 4 "course_of" ["runs", "growth", "state", "most"] 3 sp_course_of := by
  refine hasDv_of D sc_course_of rfl (fun T kV doc pm an cdv ct us its h1 h2 => ?_) (fun T kV doc pm an cdv ct us its h1 h2 => ?_) (fun vs H Q E h => ?_) (fun f cdv A outer s₀ H vs Q E hr h => ?_)
  · match us, its, h1, h2 with
    | [_, _, _, _], [_], _, _ => exact ⟨_, rfl, rfl⟩
  · match us, its, h1, h2 with
    | [_, _, _], [_], _, _ => exact ⟨_, rfl, rfl⟩
  · obtain ⟨_, _, _, _, _, _, _, _, rfl, _⟩ := h
    rfl
  · obtain ⟨a, rs, gv, v, g, st, most, n, rfl, hR, ok, hg, hv, ce, nl, q⟩ := h
    have l4 := ok.1
    have pos : ∀ r ∈ rs, 1 ≤ r.2 := fun r hr => (ok.2.1 r hr).2.1
    refine ⟨_, (pss_cons (ps_set (i := 4) sc_course_of.nd rfl (by first | exact Or.inl rfl | exact Or.inr rfl) (pe_lst (pa_cons (pv 2) pa_nil)))
    (pss_cons (ps_set (i := 5) sc_course_of.nd rfl (by first | exact Or.inl rfl | exact Or.inr rfl) (pe_doneX (w := w) rfl (room65 hr) (pv 2) pe_bl))
    (pss_cons (ps_while PassesOwn.never (PW.pt (pw_and (pt_cmpR op_le (pe_callB call_len_seq (by rfl) T.n_len (by decide +kernel) (pa_cons (pv 4) pa_nil)) (pv 3) (nomark _)) (pw_and1 (pt_not (pt_val (pe_callH G_grows_for_good (hr.mono (by omega)) (by rfl) (pa_cons (pv 0) (pa_cons (pv 1) (pa_cons (pv 2) pa_nil)))))))))
      (pss_cons (ps_set (i := 2) sc_course_of.nd rfl (by first | exact Or.inl rfl | exact Or.inr rfl) (pe_callH G_state_after_runs (hr.mono (by omega)) (by rfl) (pa_cons (pv 0) (pa_cons (pv 2) pa_nil))))
    (pss_cons (ps_expr (pe_bm PySem.F.plainAttrs_list PySem.F.slot_list_append PySem.F.type_list_append mt_append (pv 4) (pa_cons (pv 2) pa_nil)))
    (pss_cons (ps_if (pt_cmpR (op_inX (w := w) rfl (room65 hr)) (pv 2) (pv 5) (by with_unfolding_all rfl)) (pss_one ps_break) pss_nil)
    (pss_one (ps_dputX (w := w) rfl (room65 hr) (pv 5) (pv 2) pe_bl rfl))))))
    (pss_one (ps_ret (pv 4)))))), ?_⟩
    refine ⟨_, rfl, (by show 1 ≤ sizeLine; decide), fun p np => ?_⟩
    refine fun d nd => ⟨_, rfl, upd_same, keyR st, ?_, ?_⟩
    · exact key_st ((hv.same (same_upd np)).same (same_upd nd))
    have pd : d ≠ p := fun z => by rw [z, upd_same] at nd; cases nd
    have hd0 : H d = none := by rw [upd_ne pd] at nd; exact nd
    rw [upd_upd]
    have s0 : Same H (upd H p (.lst [v])) := same_upd np
    have b0 : But2 p d H (upd (upd H p (.lst [v])) d (DX w d [(keyR st, v, .bl true)])) := But2.p.trans But2.d
    have fin : ∀ (H' : Hp) (xs : List V), But2 p d H H' → H' p = some (.lst xs) → Paired (StV H') xs (courseR rs st n) → Q (.ref p) H' := fun H' xs b hp pr =>
      q H' p (fun c o e => b c o (fun z => by rw [z, np] at e; cases e) (fun z => by rw [z, hd0] at e; cases e) e) np ⟨xs, hp, pr⟩
    have len : ∀ {H' : Hp} {xs : List V} {i : Nat}, Paired (StV H') xs (courseR rs st i) → xs.length = i + 1 := fun h => by rw [Paired.len h]; simp [courseR]
    have HR : ∀ {H' : Hp}, But2 p d H H' → Runs H' a rs := fun {H'} b => by
      obtain ⟨xs, hx, hp⟩ := hR
      have sm : Same H H' := fun c o e => b c o (fun z => by rw [z, np] at e; cases e) (fun z => by rw [z, hd0] at e; cases e) e
      exact ⟨xs, sm _ _ hx, prs_same sm hp⟩
    have HG : ∀ {H' : Hp}, But2 p d H H' → StV H' gv g := fun {H'} b => hg.same fun c o e => b c o (fun z => by rw [z, np] at e; cases e) (fun z => by rw [z, hd0] at e; cases e) e
    refine ⟨fun m σ H' => ∃ (i : Nat) (vi : V) (xs : List V) (rows : List RowX), m = n - i ∧ i ≤ n ∧ σ = [some (.ref a), some gv, some vi, some (.int most), some (.ref p), some (.ref d)] ∧ But2 p d H H' ∧ H' p = some (.lst xs) ∧ Paired (StV H') xs (courseR rs st i) ∧ DXs w H' d rows ∧ rows.map (·.1) = (courseR rs st i).map keyR ∧ StV H' vi (itS rs st i) ∧ ∀ j, j < i → itS rs st j ≠ itS rs st i, ⟨n, 0, v, [v], [(keyR st, v, .bl true)], rfl, Nat.zero_le _, rfl, b0, ?_, ?_, ?_, rfl, ?_, fun j hj => absurd hj (Nat.not_lt_zero _)⟩, fun m σ H2 hW => ?_⟩
    · rw [upd_ne (fun z => pd z.symm), upd_same]
    · refine .cons ?_ .nil
      exact (hv.same s0).same (same_upd nd)
    · refine ⟨upd_same, fun r hr => ?_⟩
      rw [List.mem_singleton.mp hr]
      exact (key_st (hv.same s0)).same (same_upd nd)
    · exact (hv.same s0).same (same_upd nd)
    obtain ⟨i, vi, xs, rows, rfl, hi, rfl, b2, hp2, pr2, dx2, ks2, hv2, new⟩ := hW
    have lx := len pr2
    have ex : ∀ (H' : Hp), Same H2 H' → i = n → Q (.ref p) H' := fun H' s e => by
      refine fin H' xs (b2.trans (.of s)) (s _ _ hp2) ?_
      rw [← e]
      exact Paired.imp (fun _ _ => StV.same s) pr2
    by_cases c1 : (i : Int) + 1 ≤ most
    · refine ⟨_, rfl, p, xs, rfl, .inl (.of hp2), _, rfl, _, _, rfl, rfl, _, rfl, iteP (decide_eq_true (by rw [lx]; omega)) ?_⟩
      refine ⟨_, rfl, _, rfl, _, rfl, a, rs, gv, vi, g, _, rfl, HR b2, ok, HG b2, hv2, fun H3 s3 => ⟨_, rfl, ?_⟩⟩
      by_cases c2 : gfB rs g (itS rs st i) = true
      · refine iteN (by rw [c2]; rfl) ⟨_, rfl, ex H3 s3 ?_⟩
        refine Classical.byContradiction fun z => ?_
        have := (ce.go i (by omega)).2.1
        rw [c2] at this
        cases this
      · have c2 : gfB rs g (itS rs st i) = false := by simpa using c2
        have lt : i < n := by
          refine Classical.byContradiction fun z => ?_
          have e : i = n := by omega
          rcases ce.stop with h | h | ⟨j, hj, h⟩
          · omega
          · rw [← e, c2] at h
            cases h
          · rw [← e] at hj h
            exact new j hj h
        have ntp : ∀ {H' : Hp}, Same H2 H' → NoTup H' p := fun s => noTup_lst (s _ _ hp2)
        have ntd : ∀ {H' : Hp}, Same H2 H' → NoTup H' d := fun s => noTup_dx (s _ _ dx2.there)
        refine iteP (by rw [c2]; rfl) ⟨fun σ' H' => ∃ (vi : V) (xs : List V) (rows : List RowX), σ' = [some (.ref a), some gv, some vi, some (.int most), some (.ref p), some (.ref d)] ∧ But2 p d H H' ∧ H' p = some (.lst xs) ∧ Paired (StV H') xs (courseR rs st (i + 1)) ∧ DXs w H' d rows ∧ rows.map (·.1) = (courseR rs st (i + 1)).map keyR ∧ StV H' vi (itS rs st (i + 1)) ∧ ∀ j, j < i + 1 → itS rs st j ≠ itS rs st (i + 1), fun σ' H' ⟨vi, xs, rows, h⟩ => ⟨n - (i + 1), by omega, i + 1, vi, xs, rows, rfl, lt, h⟩, ?_⟩
        refine ⟨_, rfl, _, rfl, a, rs, vi, _, rfl, HR (b2.trans (.of s3)), pos, hv2.same s3, fun H4 v4 s4 h4 => ?_⟩
        have h4 : StV H4 v4 (itS rs st (i + 1)) := h4
        have s24 := s3.trans s4
        refine ⟨_, rfl, .inl ⟨rfl, _, SqL.of (s24 _ _ hp2)⟩, _, rfl, p, xs, v4, rfl, rfl, s24 _ _ hp2, small (by omega), ?_⟩
        have b5 : But2 p d H4 (upd H4 p (.lst (xs ++ [v4]))) := .p
        have dx5 : DXs w (upd H4 p (.lst (xs ++ [v4]))) d rows := by
          have D4 := dx2.same s24
          exact ⟨by rw [upd_ne pd]; exact D4.there, fun r hr => (D4.keys r hr).at fun c ys e => b5 c _ (fun z => ntp s24 _ (z ▸ e)) (fun z => ntd s24 _ (z ▸ e)) e⟩
        have h5 := h4.but2 b5 (ntp s24) (ntd s24)
        have crs : courseR rs st (i + 1) = courseR rs st i ++ [itS rs st (i + 1)] := by
          unfold courseR
          rw [List.range_succ (n := i + 1), List.map_append]
          rfl
        have pr5 : Paired (StV (upd H4 p (.lst (xs ++ [v4])))) (xs ++ [v4]) (courseR rs st (i + 1)) := by
          rw [crs]
          exact Paired.app (sts_but2 b5 (ntp s24) (ntd s24) (Paired.imp (fun _ _ => StV.same s24) pr2)) (.cons h5 .nil)
        have bA : But2 p d H (upd H4 p (.lst (xs ++ [v4]))) := (b2.trans (.of s24)).trans b5
        refine ⟨_, rfl, _, rfl, d, rows, keyR (itS rs st (i + 1)), rfl, dx5, key_st h5, _, rfl, ?_⟩
        rw [valX_isSome, ks2]
        by_cases c3 : keyR (itS rs st (i + 1)) ∈ (courseR rs st i).map keyR
        · refine iteP (decide_eq_true c3) ⟨_, rfl, ?_⟩
          have e : i + 1 = n := by
            obtain ⟨s, hs, es⟩ := List.mem_map.mp c3
            obtain ⟨j, hj, ej⟩ := List.mem_map.mp hs
            rw [List.mem_range] at hj
            refine Classical.byContradiction fun z => (ce.go (i + 1) (by omega)).2.2 j hj ?_
            rw [ej]
            exact keyR_inj es
          refine fin _ _ bA upd_same ?_
          rw [← e]
          exact pr5
        · refine iteN (decide_eq_false c3) ⟨_, rfl, _, rfl, d, rows, keyR (itS rs st (i + 1)), rfl, dx5, key_st h5, ?_, ?_⟩
          · have : rows.length = i + 1 := by
              have := congrArg List.length ks2
              simpa [courseR] using this
            exact Nat.le_of_lt (small (by omega))
          · have n3 : keyR (itS rs st (i + 1)) ∉ rows.map (·.1) := by rw [ks2]; exact c3
            have b6 : But2 p d (upd H4 p (.lst (xs ++ [v4]))) (upd (upd H4 p (.lst (xs ++ [v4]))) d (DX w d (putX rows (keyR (itS rs st (i + 1))) v4 (.bl true)))) := .d
            have tp : NoTup (upd H4 p (.lst (xs ++ [v4]))) p := noTup_lst upd_same
            have td : NoTup (upd H4 p (.lst (xs ++ [v4]))) d := noTup_dx dx5.there
            refine ⟨v4, _, _, rfl, bA.trans b6, ?_, sts_but2 b6 tp td pr5, dx5.put (key_st h5), ?_, h5.but2 b6 tp td, fun j hj z => c3 ?_⟩
            · rw [upd_ne (fun z => pd z.symm), upd_same]
            · rw [putX_new n3, List.map_append, ks2, crs, List.map_append]
              rfl
            · rw [← z]
              exact List.mem_map.mpr ⟨_, List.mem_map.mpr ⟨j, List.mem_range.mpr hj, rfl⟩, rfl⟩
    · refine ⟨_, rfl, p, xs, rfl, .inl (.of hp2), _, rfl, _, _, rfl, rfl, _, rfl, iteN (decide_eq_false (by rw [lx]; omega)) (iteF ⟨_, rfl, ex H2 (Same.refl _) ?_⟩)⟩
      refine Classical.byContradiction fun z => c1 (ce.go i (by omega)).1
end
end UP

set_option Elab.async false
set_option linter.all false
set_option maxRecDepth 100000
set_option maxHeartbeats 4000000
set_option pp.maxSteps 500
namespace UP
open PySem PySem.Spec PyProof.Rows L2
theorem Sts.same {H H' : Hp} {p : Addr} {l : List (Option Run)} (s : Same H H') (h : Sts H p l) : Sts H' p l := by
  obtain ⟨xs, hx, hp⟩ := h
  exact ⟨xs, s _ _ hx, Paired.imp (fun _ _ => StV.same s) hp⟩
theorem Sts.at {H : Hp} {p : Addr} {l : List (Option Run)} (h : Sts H p l) {i : Nat} {st : Option Run} (e : l[i]? = some st) : ∃ xs v, H p = some (.lst xs) ∧ xs.length = l.length ∧ xs[i]? = some v ∧ StV H v st := by
  obtain ⟨xs, hx, hp⟩ := h
  rcases paired_get (i := i) hp with ⟨_, e2⟩ | ⟨v, s, e1, e2, hv⟩
  · rw [e] at e2; cases e2
  · rw [e] at e2
    cases e2
    exact ⟨xs, v, hx, Paired.len hp, e1, hv⟩
theorem dp_stsC {K : PySem.W.Frag} {H : Hp} {p : Addr} {es : List (Option Run)} (h : Sts H p es) : Dp K H (.ref p) (.list (es.map dOt)) := by
  obtain ⟨xs, hx, hp⟩ := h
  refine .lst (.of hx) ?_
  have gen : ∀ {xs : List V} {es : List (Option Run)}, Paired (StV H) xs es → DpAll K H xs (es.map dOt) := by
    intro xs es h
    induction h with
    | nil => exact .nil
    | cons h _ ih => exact .cons (dp_o h) ih
  exact gen hp
theorem shaped_stsC {es : List (Option Run)} (h : ∀ e ∈ es, StOk e) : SeqAt.shaped (.list (es.map dOt)) = true := by
  have c : PyData.canLayAll0 (es.map dOt) = true ∧ PyData.depthAll (es.map dOt) ≤ 2 := by
    induction es with
    | nil => exact ⟨rfl, Nat.zero_le _⟩
    | cons e t ih =>
      obtain ⟨i1, i2⟩ := ih fun x hx => h x (List.mem_cons_of_mem _ hx)
      have he : (dOt e).canLay0 = true ∧ (dOt e).depth ≤ 2 := by
        cases e with
        | none => exact ⟨rfl, Nat.zero_le _⟩
        | some r => exact ⟨can_run (h _ (List.mem_cons_self ..) r rfl).1, depth_run r⟩
      constructor
      · rw [List.map_cons, PyData.canLayAll0, he.1, i1]
        rfl
      · rw [List.map_cons, PyData.depthAll]
        exact Nat.max_le.mpr ⟨he.2, i2⟩
  unfold SeqAt.shaped
  rw [PyData.canLay0, c.1, PyData.depth]
  have := c.2
  exact decide_eq_true (by omega)
def agB (g : Run) (b a : Option Run) : Bool := (match b with
  | none => true
  | some r => decide (r.1 = g.1)) && decide (a = some (g.1, numR b + g.2))
/-- the first place of the last state -/
def startR (l : List (Option Run)) : Nat := l.findIdx fun s => decide (s = l.getLast?.getD none)
def contR (l : List (Option Run)) (g : Option Run) (n : Int) : Option Run := if n ≤ (l.length : Int) - 1 then l.getD n.toNat none else match g with
  | some g0 => some (g0.1, numR (l.getLast?.getD none) + (n - ((l.length : Int) - 1)) * g0.2)
  | none => l.getD (startR l + ((n - startR l) % ((l.length : Int) - 1 - startR l)).toNat) none
section
variable {P : Program} {w : World} {K : PySem.W.Frag} {mg : Str → Option Value} {base : Heap}
/-! continued: slots 0:states 1:growth 2:rounds 3:last 4:start -/
abbrev s_continued : Stmt := topS 37
theorem sc_continued : FnScope ["states", "growth", "rounds", "last", "start"] ["states", "growth", "rounds"] (defScope s_continued) := ⟨rfl, rfl, rfl, by decide +kernel, rfl, by decide +kernel, by decide +kernel⟩
def sp_continued : Sp := fun vs H Q _ => ∃ (p : Addr) (gv : V) (l : List (Option Run)) (g : Option Run) (n : Int), vs = [.ref p, gv, .int n] ∧ Sts H p l ∧ StV H gv g ∧ (∀ s ∈ l, StOk s) ∧ l ≠ [] ∧ l.length ≤ 500000 ∧ 0 ≤ n ∧ n.natAbs < 2 ^ 500000 ∧
  ((l.length : Int) - 1 < n → (g = none → startR l + 1 < l.length) ∧ ∀ g0, g = some g0 → l.getLast?.getD none ≠ none ∧ g0.2.natAbs < 2 ^ 10) ∧ ∀ H' v', Same H H' → StV H' v' (contR l g n) → Q v' H'
theorem ok_continued (D : Df K mg "continued" s_continued) (T : Tx mg) : Has P w K mg base 1 "continued" ["states", "growth", "rounds"] sp_continued := by
  refine has_of D sc_continued (fun _ _ _ _ _ _ us hl => match us, hl with | [_, _, _], _ => rfl) (fun vs H Q E h => ?_) (fun f cdv A outer s₀ H vs Q E hr h => ?_)
  · obtain ⟨_, _, _, _, _, rfl, _⟩ := h
    rfl
  · obtain ⟨p, gv, l, g, n, rfl, hl, hg, ok, ne, l2, n0, nb, good, q⟩ := h
    refine ⟨_, (pss_cons (ps_set (i := 3) sc_continued.nd rfl (by first | exact Or.inl rfl | exact Or.inr rfl) (pe_op op_sub (pe_callB call_len_seq (by rfl) T.n_len (by decide +kernel) (pa_cons (pv 0) pa_nil)) pe_int))
    (pss_cons (ps_if (pt_cmpR op_le (pv 2) (pv 3) (nomark _)) (pss_one (ps_ret (pe_ix ix_list (pv 0) (pv 2) (fun _ _ => rfl)))) pss_nil)
    (pss_cons (ps_if (pt_cmpR op_notN (pv 1) pe_non (nomark _)) (pss_one (ps_ret (pe_tup (pa_cons (pe_ix ix_tup (pv 1) pe_int (fun _ _ => rfl)) (pa_cons (pe_op op_add (pe_ix ix_tup (pe_ix ix_list (pv 0) (pv 3) (fun _ _ => rfl)) pe_int (fun _ _ => rfl)) (pe_op op_mulW (pe_op op_sub (pv 2) (pv 3)) (pe_ix ix_tup (pv 1) pe_int (fun _ _ => rfl)))) pa_nil))))) pss_nil)
    (pss_cons (ps_set (i := 4) sc_continued.nd rfl (by first | exact Or.inl rfl | exact Or.inr rfl) (pe_bm PySem.F.plainAttrs_list PySem.F.slot_list_index PySem.F.type_list_index (mt_indexD (room65 hr)) (pv 0) (pa_cons (pe_ix ix_list (pv 0) (pv 3) (fun _ _ => rfl)) pa_nil)))
    (pss_one (ps_ret (pe_ix ix_list (pv 0) (pe_op op_add (pv 4) (pe_op op_mod (pe_op op_sub (pv 2) (pv 4)) (pe_op op_sub (pv 3) (pv 4)))) (fun _ _ => rfl)))))))), ?_⟩
    obtain ⟨xs, hx, hp⟩ := id hl
    have lx : xs.length = l.length := Paired.len hp
    have lpos : 0 < l.length := List.length_pos_iff.mpr ne
    obtain ⟨sl, esl⟩ : ∃ sl, l[l.length - 1]? = some sl := ⟨_, List.getElem?_eq_getElem (by omega)⟩
    have gl : l.getLast?.getD none = sl := by rw [List.getLast?_eq_getElem?, esl]; rfl
    have at' : ∀ (j : Nat) (s : Option Run), l[j]? = some s → ∃ v, xs[j]? = some v ∧ StV H v s := fun j s e => by
      obtain ⟨ys, v, hy, _, ev, hv⟩ := hl.at e
      rw [hx] at hy
      cases hy
      exact ⟨v, ev, hv⟩
    refine ⟨_, rfl, p, xs, rfl, .inl (.of hx), _, _, rfl, rfl, ?_⟩
    refine ⟨_, rfl, _, rfl, _, _, rfl, rfl, _, rfl, ?_⟩
    rw [lx]
    by_cases c : n ≤ (l.length : Int) - 1
    · refine iteP (decide_eq_true c) ?_
      obtain ⟨s, es⟩ : ∃ s, l[n.toNat]? = some s := ⟨_, List.getElem?_eq_getElem (by omega)⟩
      obtain ⟨v, ev, hv⟩ := at' _ _ es
      have q := q H v (Same.refl _)
      rw [show contR l g n = s by unfold contR; rw [if_pos c, List.getD_eq_getElem?_getD, es]; rfl] at q
      exact ⟨_, rfl, _, rfl, p, xs, n, v, rfl, rfl, .of hx, by rw [show n = ((n.toNat : Nat) : Int) by omega]; exact atI_nat ev, q hv⟩
    · refine iteN (decide_eq_false c) ?_
      obtain ⟨g1, g2⟩ := good (by omega)
      obtain ⟨vl, evl, hvl⟩ := at' _ _ esl
      have evl' : atI xs ((l.length : Int) - 1) = some vl := by rw [show (l.length : Int) - 1 = ((l.length - 1 : Nat) : Int) by omega]; exact atI_nat evl
      cases g with
      | some g0 =>
        obtain ⟨tg, rfl, htg⟩ := hg
        obtain ⟨nn, gb⟩ := g2 g0 rfl
        rw [gl] at nn
        cases sl with
        | none => exact absurd rfl nn
        | some r =>
          obtain ⟨tr, rfl, htr⟩ := hvl
          refine ⟨_, rfl, rfl, _, rfl, iteP rfl ?_⟩
          have q := fun o t => q (upd H t o) (.ref t)
          rw [show contR l (some g0) n = some (g0.1, r.2 + (n - ((l.length : Int) - 1)) * g0.2) by unfold contR; rw [if_neg c, gl]; rfl] at q
          refine ⟨_, rfl, tg, _, 0, _, rfl, rfl, .of htg, at0, _, rfl, _, rfl, p, xs, _, _, rfl, rfl, .of hx, evl', tr, _, 1, _, rfl, rfl, .of htr, at1, ?_⟩
          refine ⟨_, rfl, _, rfl, _, _, rfl, rfl, _, rfl, tg, _, 1, _, rfl, rfl, .of htg, at1, _, _, rfl, rfl, wide_mul (a := 500000) (Nat.lt_of_le_of_lt (by omega) nb) gb (by decide) (by decide) (by decide), _, _, rfl, rfl, (by show 2 ≤ sizeLine; decide), fun t nt => q _ t (same_upd nt) ⟨t, rfl, upd_same⟩⟩
      | none =>
        cases hg
        have st := g1 rfl
        refine ⟨_, rfl, rfl, _, rfl, iteN rfl ?_⟩
        have fs : l[startR l]? = some sl := by
          have lt : startR l < l.length := by omega
          have := List.findIdx_getElem (w := lt)
          rw [List.getElem?_eq_getElem lt]
          exact congrArg some ((of_decide_eq_true this).trans gl)
        have fno : ∀ (m : Nat) (z : Option Run), m < startR l → l[m]? = some z → z ≠ sl := fun m z hm e => by
          have lt : m < l.length := by omega
          have := List.not_of_lt_findIdx (p := fun s => decide (s = l.getLast?.getD none)) (xs := l) hm
          rw [List.getElem?_eq_getElem lt] at e
          cases e
          exact fun e => (of_decide_eq_false this) (e.trans gl.symm)
        refine ⟨_, rfl, .inl ⟨rfl, _, SqL.of hx⟩, _, rfl, _, rfl, p, xs, _, vl, rfl, rfl, .of hx, evl', p, vl, dOt sl, l.map dOt, startR l, dOt sl, rfl, rfl, dp_stsC hl, dp_o hvl, shaped_stsC ok, shaped_o (ok sl (List.mem_of_getElem? esl)), by rw [List.getElem?_map, fs]; rfl, by rw [eqv_o]; exact decide_eq_true rfl, fun m z hm e => ?_, ?_⟩
        · rw [List.getElem?_map] at e
          cases hz : l[m]? with
          | none => rw [hz] at e; cases e
          | some s =>
            rw [hz] at e
            cases e
            rw [eqv_o]
            exact decide_eq_false (fno m s hm hz)
        · have dpos : (0 : Int) < (l.length : Int) - 1 - (startR l : Nat) := by omega
          have m0 := Int.emod_nonneg (n - (startR l : Nat)) (Int.ne_of_gt dpos)
          have m1 := Int.emod_lt_of_pos (n - (startR l : Nat)) dpos
          have q := q H
          rw [show contR l none n = l.getD (startR l + ((n - startR l) % ((l.length : Int) - 1 - startR l)).toNat) none by unfold contR; rw [if_neg c]] at q
          generalize hk : (n - (startR l : Nat)) % ((l.length : Int) - 1 - (startR l : Nat)) = k at m0 m1 q
          obtain ⟨s, es⟩ : ∃ s, l[startR l + k.toNat]? = some s := ⟨_, List.getElem?_eq_getElem (by omega)⟩
          obtain ⟨v, ev, hv⟩ := at' _ _ es
          have q := q v (Same.refl _)
          rw [List.getD_eq_getElem?_getD, es] at q
          exact ⟨_, rfl, _, rfl, _, rfl, _, rfl, _, _, rfl, rfl, _, rfl, _, rfl, _, _, rfl, rfl, _, _, rfl, rfl, dpos, _, _, rfl, rfl, p, xs, _, v, rfl, rfl, .of hx, by rw [hk, show ((startR l : Nat) : Int) + k = ((startR l + k.toNat : Nat) : Int) by omega]; exact atI_nat ev, q hv⟩
end
end UP

set_option Elab.async false
set_option linter.all false
set_option maxRecDepth 100000
set_option maxHeartbeats 4000000
set_option pp.maxSteps 500
namespace UP
open PySem PySem.Spec PyProof.Rows L2
/-! ### states stay states -/
theorem stOk_stepC {a : Option Run} {k : Str} {c : Int} (h : StOk a) (kk : KindOk k) (c1 : 1 ≤ c) : StOk (stepR a k c) := by
  intro r e
  cases a with
  | none =>
    cases e
    exact ⟨kk, c1⟩
  | some s =>
    have hs := h s rfl
    by_cases e1 : s.1 = k
    · rw [show stepR (some s) k c = some (k, s.2 + c) from if_pos e1] at e
      cases e
      exact ⟨kk, by show 1 ≤ s.2 + c; have := hs.2; omega⟩
    · rw [show stepR (some s) k c = if 0 < s.2 - c then some (s.1, s.2 - c) else if s.2 - c = 0 then none else some (k, -(s.2 - c)) from if_neg e1] at e
      split at e
      · cases e
        exact ⟨hs.1, by show 1 ≤ s.2 - c; omega⟩
      · split at e
        · cases e
        · cases e
          exact ⟨kk, by show 1 ≤ -(s.2 - c); omega⟩
theorem stOk_stR : ∀ (rs : List Run) (st : Option Run), (∀ r ∈ rs, KindOk r.1 ∧ 1 ≤ r.2) → StOk st → StOk (stR rs st)
  | [], st, _, h => h
  | r :: t, st, k, h => by
    have hr := k r (List.mem_cons_self ..)
    exact stOk_stR t _ (fun x hx => k x (List.mem_cons_of_mem _ hx)) (stOk_stepC h hr.1 hr.2)
theorem SeqOk.kinds {rs : List Run} (h : SeqOk rs) : ∀ r ∈ rs, KindOk r.1 ∧ 1 ≤ r.2 := fun r hr => ⟨(h.2.1 r hr).1, (h.2.1 r hr).2.1⟩
theorem itS_ok {rs : List Run} {st : Option Run} (k : ∀ r ∈ rs, KindOk r.1 ∧ 1 ≤ r.2) (h : StOk st) : ∀ n, StOk (itS rs st n)
  | 0 => h
  | n + 1 => stOk_stR rs _ k (itS_ok k h n)
theorem crs_ok {rs : List Run} {st : Option Run} {n : Nat} (k : ∀ r ∈ rs, KindOk r.1 ∧ 1 ≤ r.2) (h : StOk st) : ∀ s ∈ courseR rs st n, StOk s := fun s hs => by
  obtain ⟨j, _, rfl⟩ := List.mem_map.mp hs
  exact itS_ok k h j
theorem crs_len {rs : List Run} {st : Option Run} {n : Nat} : (courseR rs st n).length = n + 1 := by simp [courseR]
theorem crs_at {rs : List Run} {st : Option Run} {n i : Nat} (h : i ≤ n) : (courseR rs st n)[i]? = some (itS rs st i) := by
  unfold courseR
  rw [List.getElem?_map, List.getElem?_range (by omega)]
  rfl
theorem crs_last {rs : List Run} {st : Option Run} {n : Nat} : (courseR rs st n).getLast?.getD none = itS rs st n := by
  rw [List.getLast?_eq_getElem?, crs_len, show n + 1 - 1 = n by omega, crs_at (Nat.le_refl _)]
  rfl
theorem frR_nonneg {rs : List Run} {st : Option Run} : 0 ≤ frR rs st := by
  cases st with
  | none => exact Int.le_refl _
  | some r =>
    show 0 ≤ (if r.2 < lenR rs ∨ fallR rs r.1 ≤ 0 then 0 else (r.2 - lenR rs) / fallR rs r.1 + 1)
    split
    · exact Int.le_refl _
    · rename_i h
      have h1 : ¬ r.2 < lenR rs := fun z => h (.inl z)
      have h2 : ¬ fallR rs r.1 ≤ 0 := fun z => h (.inr z)
      have := Int.ediv_nonneg (a := r.2 - lenR rs) (b := fallR rs r.1) (by omega) (by omega)
      omega
/-- as long as it only falls -/
theorem fr_room {rs : List Run} {r : Run} {n : Int} (pos : ∀ r ∈ rs, 1 ≤ r.2) (n0 : n ≠ 0) (h0 : 0 ≤ n) (h : n ≤ frR rs (some r)) : lenR rs ≤ r.2 ∧ 0 < fallR rs r.1 ∧ (n - 1) * fallR rs r.1 ≤ r.2 - lenR rs := by
  have e : frR rs (some r) = if r.2 < lenR rs ∨ fallR rs r.1 ≤ 0 then 0 else (r.2 - lenR rs) / fallR rs r.1 + 1 := rfl
  rw [e] at h
  by_cases c : r.2 < lenR rs ∨ fallR rs r.1 ≤ 0
  · rw [if_pos c] at h
    omega
  · rw [if_neg c] at h
    have c1 : ¬ r.2 < lenR rs := fun z => c (.inl z)
    have c2 : ¬ fallR rs r.1 ≤ 0 := fun z => c (.inr z)
    refine ⟨by omega, by omega, ?_⟩
    have h1 : n - 1 ≤ (r.2 - lenR rs) / fallR rs r.1 := by omega
    have h2 := Int.mul_le_mul_of_nonneg_right h1 (show 0 ≤ fallR rs r.1 by omega)
    have h3 := Int.ediv_mul_le (r.2 - lenR rs) (b := fallR rs r.1) (by omega)
    omega
theorem fn_ok {rs : List Run} {st : Option Run} {n : Int} (pos : ∀ r ∈ rs, 1 ≤ r.2) (h : StOk st) (h0 : 0 ≤ n) (hn : n ≤ frR rs st) : StOk (fnR rs st n) := by
  unfold fnR
  by_cases c : n = 0
  · rw [if_pos c]
    exact h
  · rw [if_neg c]
    cases st with
    | none => exact h
    | some r =>
      obtain ⟨f1, f2, f3⟩ := fr_room pos c h0 hn
      have c1 := cntK_pos (k := r.1) pos
      have ef : fallR rs r.1 = lenR rs - 2 * cntK rs r.1 := rfl
      have e : n * fallR rs r.1 = (n - 1) * fallR rs r.1 + fallR rs r.1 := by rw [Int.sub_mul, Int.one_mul]; omega
      show StOk (withR r.1 (r.2 - n * fallR rs r.1))
      intro s es
      unfold withR at es
      split at es
      · cases es
      · cases es
        refine ⟨(h r rfl).1, ?_⟩
        show 1 ≤ r.2 - n * fallR rs r.1
        omega
theorem fr_some {rs : List Run} {st : Option Run} {n : Int} (h0 : n ≠ 0) (h1 : 0 ≤ n) (h : n ≤ frR rs st) : st ≠ none := by
  rintro rfl
  have : n ≤ 0 := h
  omega
section
variable {P : Program} {w : World} {K : PySem.W.Frag} {mg : Str → Option Value} {base : Heap}
end
end UP

set_option Elab.async false
set_option linter.all false
set_option maxRecDepth 100000
set_option maxHeartbeats 4000000
set_option pp.maxSteps 300
namespace UP
open PySem PySem.Spec PyProof.Rows L2
/-! ### xs.count(y) of texts -/
def eqs (k : Str) (v : Value) : Bool := match v with
  | .str z _ => z == k
  | _ => false
def rCntS (K : PySem.W.Frag) : V → List V → Hp → VK → Prop := fun x xs H Q => ∃ (p : Addr) (ns : List Str) (k : Str), x = .ref p ∧ xs = [.str k] ∧ SqL K H p (ns.map V.str) ∧ Q (.int (ns.count k : Nat)) H
theorem strs_vals : ∀ {ns : List Str} {us : List Value}, Vals (ns.map V.str) us → (∀ y ∈ us, ∃ z t, y = .str z t) ∧ ∀ k, us.countP (eqs k) = ns.count k
  | [], _, .nil => ⟨fun y h => (by cases h), fun k => rfl⟩
  | z :: t, _, .cons ⟨tk, e⟩ r => by
    obtain ⟨h1, h2⟩ := strs_vals r
    subst e
    refine ⟨fun y hy => ?_, fun k => ?_⟩
    · rcases List.mem_cons.mp hy with e | e
      · exact ⟨z, tk, e⟩
      · exact h1 y e
    · rw [List.countP_cons, h2 k, List.count_cons]
      rfl
theorem mt_lcountS {X : Cx} : MtR X "list.count" (rCntS X.K) := by
  intro pins s σ H x xs v us Q I rx rxs h
  obtain ⟨p, ns, k, rfl, rfl, hs, q⟩ := h
  cases rx
  obtain ⟨u, rfl, ru⟩ := rxs.one
  obtain ⟨t, rfl⟩ := ru
  obtain ⟨its, rv, ⟨⟨cls, dd, data, sl⟩, n, ho, hc, hdn, hd⟩, hlen⟩ := I.list hs
  simp only at hc hd
  subst hc hd
  obtain ⟨h1, h2⟩ := strs_vals rv
  refine call_meets PySem.F.slot_list_count ⟨_, ho, rfl⟩ PySem.F.entry_list_count (PySem.F.args_list_count_2 _ _)
    (SeqAt.list_countAt p its.toArray n dd sl (.str k t) (eqs k)) ⟨ho, fun y hy => ?_, ?_⟩
  · obtain ⟨z, tz, rfl⟩ := h1 y (by simpa using hy)
    exact SeqAt.EqAt.str_str z tz k t
  have ec : its.toArray.toList.countP (eqs k) = ns.count k := h2 k
  refine ⟨.int (ns.count k : Nat), H, I.tok _, ⟨s.toks, ?_⟩, q⟩
  show Value.int ((its.toArray.toList.countP (eqs k) : Nat) : Int) s.toks = Value.int ((ns.count k : Nat) : Int) s.toks
  rw [ec]
/-! ### effects -/
def fxR (items : List Str) (k : Str) (n : Int) : Option Run := stI items (withR k n)
def chR (items : List Str) (k : Str) : Int := (items.map fun x => if x = k then (1 : Int) else -1).sum
theorem chR_snoc (l : List Str) (x k : Str) : chR (l ++ [x]) k = chR l k + if x = k then 1 else -1 := by
  unfold chR
  rw [List.map_append, List.sum_append]
  simp
theorem chR_cons (l : List Str) (x k : Str) : chR (x :: l) k = (if x = k then 1 else -1) + chR l k := by
  unfold chR
  rw [List.map_cons, List.sum_cons]
theorem chR_cnt (k : Str) : ∀ l : List Str, chR l k = 2 * ((l.count k : Nat) : Int) - (l.length : Int)
  | [] => rfl
  | x :: t => by
    rw [chR_cons, chR_cnt k t, List.count_cons, List.length_cons]
    by_cases e : x = k
    · rw [if_pos e, if_pos (by rw [e]; exact beq_self_eq_true k)]
      omega
    · rw [if_neg e, if_neg (fun z => e (eq_of_beq z))]
      omega
theorem with0 (k : Str) : withR k 0 = none := if_pos rfl
theorem with_pos {k : Str} {n : Int} (h : 0 < n) : withR k n = some (k, n) := if_neg (by omega)
/-- one arrival while none or items of a kind wait -/
theorem step_with {k x : Str} {n : Int} (h : 0 ≤ n) (z : n = 0 → x = k) : stepR (withR k n) x 1 = withR k (n + if x = k then 1 else -1) := by
  by_cases n0 : n = 0
  · have e := z n0
    subst n0
    rw [with0, if_pos e, e]
    rfl
  · rw [with_pos (by omega)]
    by_cases e : x = k
    · rw [step_same (r := (k, n)) e.symm, if_pos e, with_pos (by omega), e]
    · rw [step_other (r := (k, n)) (fun q => e q.symm), if_neg e]
      by_cases h1 : 0 < n - 1
      · rw [if_pos (show 0 < (k, n).2 - 1 from h1), with_pos (by omega)]
        rfl
      · rw [if_neg (show ¬ 0 < (k, n).2 - 1 from h1), if_pos (show (k, n).2 - 1 = 0 by show n - 1 = 0; omega), show n + -1 = 0 by omega, with0]
theorem fx_far (k : Str) : ∀ (l : List Str) (n : Int), (l.length : Int) ≤ n → stI l (withR k n) = withR k (n + chR l k)
  | [], n, _ => by
    show withR k n = withR k (n + 0)
    rw [Int.add_zero]
  | x :: t, n, h => by
    rw [List.length_cons] at h
    have n1 : 1 ≤ n := by omega
    show stI t (stepR (withR k n) x 1) = _
    rw [step_with (by omega) (fun z => by omega), fx_far k t _ (by split <;> omega), chR_cons, Int.add_assoc]
theorem stI_drop {l : List Str} {i : Nat} {x : Str} (h : l[i]? = some x) (s : Option Run) : stI (l.drop i) s = stI (l.drop (i + 1)) (stepR s x 1) := by
  obtain ⟨hi, e⟩ := List.getElem?_eq_some_iff.mp h
  rw [List.drop_eq_getElem_cons hi, e]
  rfl
theorem stI_split (l : List Str) (i : Nat) (s : Option Run) : stI l s = stI (l.drop i) (stI (l.take i) s) := by
  rw [← stI_app, List.take_append_drop]
theorem stI_pos : ∀ (l : List Str) (s : Option Run), PosO s → PosO (stI l s)
  | [], _, h => h
  | x :: t, s, h => stI_pos t _ (stepR_pos h (by decide))
theorem stOk_stI : ∀ (l : List Str) (s : Option Run), (∀ k ∈ l, KindOk k) → StOk s → StOk (stI l s)
  | [], _, _, h => h
  | x :: t, s, k, h => stOk_stI t _ (fun y hy => k y (List.mem_cons_of_mem _ hy)) (stOk_step h (k x (List.mem_cons_self ..)))
theorem pos_with {k : Str} {n : Int} (h : 0 ≤ n) : PosO (withR k n) := fun r e => by
  unfold withR at e
  split at e
  · cases e
  · cases e
    show 1 ≤ n
    omega
theorem ok_with {k : Str} {n : Int} (kk : KindOk k) (h : 0 ≤ n) : StOk (withR k n) := fun r e => by
  unfold withR at e
  split at e
  · cases e
  · cases e
    exact ⟨kk, by show 1 ≤ n; omega⟩
/-- while effects are listed: L of them are known, all others are shifts so far -/
structure Low (items : List Str) (k : Str) (i L : Nat) : Prop where
  pos : 1 ≤ L
  le : L ≤ i + 1
  far : ∀ n : Int, (L : Int) ≤ n → 0 < n + chR (items.take i) k ∧ stI (items.take i) (withR k n) = withR k (n + chR (items.take i) k)
theorem Low.start (items : List Str) (k : Str) : Low items k 0 1 := ⟨Nat.le_refl _, Nat.le_refl _, fun n h => by
  rw [List.take_zero]
  show 0 < n + 0 ∧ withR k n = withR k (n + 0)
  rw [Int.add_zero]
  exact ⟨by omega, rfl⟩⟩
theorem take_step {items : List Str} {i : Nat} {x : Str} (h : items[i]? = some x) (s : Option Run) : stI (items.take (i + 1)) s = stepR (stI (items.take i) s) x 1 := by
  rw [take_snoc h, stI_app]
  rfl
theorem Low.stay {items : List Str} {k : Str} {i L : Nat} {x : Str} (h : Low items k i L) (hx : items[i]? = some x) (ne : chR (items.take (i + 1)) k ≠ -(L : Int)) : Low items k (i + 1) L := by
  have f := (h.far L (Int.le_refl _)).1
  have e : chR (items.take (i + 1)) k = chR (items.take i) k + if x = k then 1 else -1 := by rw [take_snoc hx, chR_snoc]
  rw [e] at ne
  refine ⟨h.pos, by have := h.le; omega, fun n hn => ?_⟩
  obtain ⟨f1, f2⟩ := h.far n hn
  rw [e, take_step hx, f2, step_with (by omega) (fun z => by omega), Int.add_assoc]
  refine ⟨?_, rfl⟩
  split at ne <;> split <;> first | omega | contradiction
theorem Low.more {items : List Str} {k : Str} {i L : Nat} {x : Str} (h : Low items k i L) (hx : items[i]? = some x) (eq : chR (items.take (i + 1)) k = -(L : Int)) : Low items k (i + 1) (L + 1) ∧ fxR items k L = stI (items.drop (i + 1)) none := by
  have e : chR (items.take (i + 1)) k = chR (items.take i) k + if x = k then 1 else -1 := by rw [take_snoc hx, chR_snoc]
  have e2 := e
  rw [eq] at e2
  refine ⟨⟨by omega, by have := h.le; omega, fun n hn => ?_⟩, ?_⟩
  · obtain ⟨f1, f2⟩ := h.far n (by omega)
    rw [e, take_step hx, f2, step_with (by omega) (fun z => by omega), Int.add_assoc]
    exact ⟨by omega, rfl⟩
  · obtain ⟨f1, f2⟩ := h.far L (Int.le_refl _)
    unfold fxR
    rw [stI_split items (i + 1), take_step hx, f2, step_with (by omega) (fun z => by omega), show (L : Int) + chR (items.take i) k + (if x = k then 1 else -1) = 0 by omega, with0]
/-- the list of effects is right -/
structure EffOk (items : List Str) (k : Str) (es : List (Option Run)) : Prop where
  len : 1 ≤ es.length ∧ es.length ≤ items.length + 1
  val : ∀ n, n < es.length → es[n]? = some (fxR items k n)
  far : ∃ sh : Int, ∀ n : Int, (es.length : Int) - 1 ≤ n → 0 ≤ n + sh ∧ fxR items k n = withR k (n + sh)
end UP

set_option Elab.async false
set_option linter.all false
set_option maxRecDepth 100000
set_option maxHeartbeats 4000000
set_option pp.maxSteps 500
namespace UP
open PySem PySem.Spec PyProof.Rows L2
/-! ### the rounds one by one -/
theorem it_len : ∀ {rs : List Run}, (∀ r ∈ rs, 1 ≤ r.2) → ((itR rs).length : Int) = lenR rs
  | [], _ => rfl
  | r :: l, h => by
    have h1 := h r (List.mem_cons_self ..)
    have h2 := it_len (rs := l) fun x hx => h x (List.mem_cons_of_mem _ hx)
    show (((List.replicate r.2.toNat r.1 ++ itR l).length : Nat) : Int) = lenR (r :: l)
    rw [List.length_append, List.length_replicate, lenR_cons]
    omega
theorem ch_fall {rs : List Run} (pos : ∀ r ∈ rs, 1 ≤ r.2) (k : Str) : chR (itR rs) k = -fallR rs k := by
  rw [chR_cnt, it_len pos, ← cntK_it k pos]
  show _ = -(lenR rs - 2 * cntK rs k)
  omega
theorem len_nonneg {rs : List Run} (pos : ∀ r ∈ rs, 1 ≤ r.2) : 0 ≤ lenR rs := by
  rw [← it_len pos]
  omega
/-- far away a round is a shift -/
theorem far_round {rs : List Run} {k : Str} {n : Int} (pos : ∀ r ∈ rs, 1 ≤ r.2) (h : lenR rs ≤ n) : stR rs (withR k n) = withR k (n - fallR rs k) := by
  have l0 := len_nonneg pos
  rw [st_items _ _ (pos_with (by omega)) pos, fx_far k _ _ (by rw [it_len pos]; exact h), ch_fall pos]
  rfl
theorem itS_add (rs : List Run) (st : Option Run) (i : Nat) : ∀ j, itS rs st (i + j) = itS rs (itS rs st i) j
  | 0 => rfl
  | j + 1 => by
    show stR rs (itS rs st (i + j)) = stR rs (itS rs (itS rs st i) j)
    rw [itS_add rs st i j]
theorem fn_form {rs : List Run} {r : Run} {n : Int} (h : 1 ≤ r.2) : fnR rs (some r) n = withR r.1 (r.2 - n * fallR rs r.1) := by
  unfold fnR
  by_cases c : n = 0
  · rw [if_pos c, c, Int.zero_mul, Int.sub_zero, with_pos (by omega)]
  · rw [if_neg c]
/-- as long as a state falls its rounds are known -/
theorem fall_it {rs : List Run} {st : Option Run} (pos : ∀ r ∈ rs, 1 ≤ r.2) (so : PosO st) : ∀ f : Nat, (f : Int) ≤ frR rs st → itS rs st f = fnR rs st f
  | 0, _ => rfl
  | f + 1, h => by
    cases st with
    | none =>
      have : ((f + 1 : Nat) : Int) ≤ 0 := h
      omega
    | some r =>
      have r1 := so r rfl
      have ih := fall_it pos so f (by omega)
      obtain ⟨_, _, h3⟩ := fr_room (n := ((f + 1 : Nat) : Int)) pos (by omega) (by omega) h
      show stR rs (itS rs (some r) f) = _
      rw [ih, fn_form r1, fn_form r1]
      have e : ((f + 1 : Nat) : Int) - 1 = (f : Int) := by omega
      rw [e] at h3
      rw [far_round pos (by omega)]
      congr 1
      rw [show ((f + 1 : Nat) : Int) = (f : Int) + 1 by omega, Int.add_mul, Int.one_mul]
      omega
/-- few items wait, or they don't become fewer -/
def Low0 (rs : List Run) (s : Option Run) : Prop := ∀ r, s = some r → r.2 < lenR rs ∨ fallR rs r.1 ≤ 0
theorem fallen_low {rs : List Run} {st : Option Run} (pos : ∀ r ∈ rs, 1 ≤ r.2) (so : PosO st) : Low0 rs (fnR rs st (frR rs st)) := by
  cases st with
  | none =>
    intro r e
    have : fnR rs none (frR rs none) = none := rfl
    rw [this] at e
    cases e
  | some r =>
    have r1 := so r rfl
    rw [fn_form r1]
    intro s es
    have fe : frR rs (some r) = if r.2 < lenR rs ∨ fallR rs r.1 ≤ 0 then 0 else (r.2 - lenR rs) / fallR rs r.1 + 1 := rfl
    by_cases c : r.2 < lenR rs ∨ fallR rs r.1 ≤ 0
    · rw [fe, if_pos c, Int.zero_mul, Int.sub_zero, with_pos (by omega)] at es
      cases es
      exact c
    · rw [fe, if_neg c] at es
      have c1 : ¬ r.2 < lenR rs := fun z => c (.inl z)
      have c2 : ¬ fallR rs r.1 ≤ 0 := fun z => c (.inr z)
      have h1 := Int.emod_add_mul_ediv (r.2 - lenR rs) (fallR rs r.1)
      have h2 := Int.emod_lt_of_pos (r.2 - lenR rs) (show 0 < fallR rs r.1 by omega)
      have h4 : ((r.2 - lenR rs) / fallR rs r.1 + 1) * fallR rs r.1 = fallR rs r.1 * ((r.2 - lenR rs) / fallR rs r.1) + fallR rs r.1 := by rw [Int.add_mul, Int.one_mul, Int.mul_comm]
      unfold withR at es
      split at es
      · cases es
      · cases es
        left
        show r.2 - ((r.2 - lenR rs) / fallR rs r.1 + 1) * fallR rs r.1 < lenR rs
        omega
theorem least_of {p : Nat → Prop} : ∀ {n : Nat}, p n → ∃ k, k ≤ n ∧ p k ∧ ∀ i, i < k → ¬ p i
  | 0, h => ⟨0, Nat.le_refl _, h, fun i hi => absurd hi (Nat.not_lt_zero _)⟩
  | n + 1, h => by
    by_cases c : ∃ j, j ≤ n ∧ p j
    · obtain ⟨j, hj, pj⟩ := c
      obtain ⟨k, h1, h2, h3⟩ := least_of (n := j) pj
      exact ⟨k, by omega, h2, h3⟩
    · exact ⟨n + 1, Nat.le_refl _, h, fun i hi pi => c ⟨i, by omega, pi⟩⟩
/-! with growth -/
def sgR (k : Str) : Option Run → Int
  | none => 0
  | some r => if r.1 = k then r.2 else -r.2
theorem sg_step {k x : Str} {s : Option Run} (h : PosO s) : sgR k s + (if x = k then 1 else -1) ≤ sgR k (stepR s x 1) := by
  cases s with
  | none =>
    show 0 + (if x = k then (1 : Int) else -1) ≤ (if x = k then (1 : Int) else -1)
    omega
  | some r =>
    have r1 := h r rfl
    by_cases e : r.1 = x
    · rw [step_same e]
      show sgR k (some r) + _ ≤ if x = k then r.2 + 1 else -(r.2 + 1)
      show (if r.1 = k then r.2 else -r.2) + _ ≤ _
      rw [e]
      split <;> omega
    · rw [step_other e]
      show (if r.1 = k then r.2 else -r.2) + _ ≤ _
      by_cases c : 0 < r.2 - 1
      · rw [if_pos c]
        show _ ≤ (if r.1 = k then r.2 - 1 else -(r.2 - 1))
        by_cases c1 : r.1 = k
        · rw [if_pos c1, if_pos c1, if_neg (fun z => e (c1.trans z.symm))]
          omega
        · rw [if_neg c1, if_neg c1]
          split <;> omega
      · rw [if_neg c, if_pos (show r.2 - 1 = 0 by omega)]
        show _ ≤ (0 : Int)
        by_cases c1 : r.1 = k
        · rw [if_pos c1, if_neg (fun z => e (c1.trans z.symm))]
          omega
        · rw [if_neg c1]
          split <;> omega
theorem sg_stI {k : Str} : ∀ (l : List Str) (s : Option Run), PosO s → sgR k s + chR l k ≤ sgR k (stI l s)
  | [], s, _ => by
    show sgR k s + 0 ≤ sgR k s
    omega
  | x :: t, s, h => by
    have h1 := sg_step (k := k) (x := x) h
    have h2 := sg_stI (k := k) t (stepR s x 1) (stepR_pos h (by decide))
    rw [chR_cons]
    show _ ≤ sgR k (stI t (stepR s x 1))
    omega
theorem sg_round {rs : List Run} {k : Str} {s : Option Run} (pos : ∀ r ∈ rs, 1 ≤ r.2) (h : PosO s) : sgR k s - fallR rs k ≤ sgR k (stR rs s) := by
  rw [st_items _ _ h pos]
  have := sg_stI (k := k) (itR rs) s h
  rw [ch_fall pos] at this
  omega
theorem itS_pos {rs : List Run} {s : Option Run} (pos : ∀ r ∈ rs, 1 ≤ r.2) (h : PosO s) : ∀ n, PosO (itS rs s n)
  | 0 => h
  | n + 1 => by
    show PosO (stR rs (itS rs s n))
    rw [st_items _ _ (itS_pos pos h n) pos]
    exact stI_pos _ _ (itS_pos pos h n)
theorem sg_it {rs : List Run} {k : Str} {s : Option Run} (pos : ∀ r ∈ rs, 1 ≤ r.2) (h : PosO s) (f : 0 ≤ -fallR rs k) : ∀ n : Nat, sgR k s + (n : Int) * (-fallR rs k) ≤ sgR k (itS rs s n)
  | 0 => by
    show sgR k s + ((0 : Nat) : Int) * _ ≤ sgR k s
    rw [show ((0 : Nat) : Int) = 0 from rfl, Int.zero_mul]
    omega
  | n + 1 => by
    have h1 := sg_it pos h f n
    have h2 := sg_round (k := k) pos (itS_pos pos h n)
    show _ ≤ sgR k (stR rs (itS rs s n))
    rw [show ((n + 1 : Nat) : Int) = (n : Int) + 1 by omega, Int.add_mul, Int.one_mul]
    omega
end UP

set_option Elab.async false
set_option linter.all false
set_option maxRecDepth 100000
set_option maxHeartbeats 4000000
set_option pp.maxSteps 500
namespace UP
open PySem PySem.Spec PyProof.Rows L2
/-- the state from which a course of n rounds is followed -/
def ff (rs : List Run) (st : Option Run) (n : Int) : Int := if frR rs st < n then frR rs st else n
structure AftOk (rs : List Run) (st : Option Run) (n : Int) (k : Nat) : Prop where
  ce : CEnd rs (grR rs) (n - ff rs st n) (fnR rs st (ff rs st n)) k
  few : k ≤ 400000
  ret : grR rs = none → (k : Int) < n - ff rs st n → startR (courseR rs (fnR rs st (ff rs st n)) k) < k
  gro : grR rs ≠ none → (k : Int) < n - ff rs st n → itS rs (fnR rs st (ff rs st n)) k ≠ none
def aftR (rs : List Run) (st : Option Run) (n : Int) (k : Nat) : Option Run := contR (courseR rs (fnR rs st (ff rs st n)) k) (grR rs) (n - ff rs st n)
theorem ff_bd {rs : List Run} {st : Option Run} {n : Int} (h : 0 ≤ n) : 0 ≤ ff rs st n ∧ ff rs st n ≤ n ∧ ff rs st n ≤ frR rs st := by
  have := frR_nonneg (rs := rs) (st := st)
  unfold ff
  split <;> omega
theorem gr_small {rs : List Run} {g : Run} (pos : ∀ r ∈ rs, 1 ≤ r.2) (l : lenR rs ≤ 400) (h : grR rs = some g) : g.2.natAbs < 2 ^ 10 := by
  obtain ⟨_, h2, h3⟩ := gr_is h
  have := cntK_le (k := g.1) pos
  omega
theorem gr_ok {rs : List Run} (ok : SeqOk rs) : StOk (grR rs) := fun g h => by
  obtain ⟨h1, _, h3⟩ := gr_is h
  obtain ⟨r, hr, e⟩ := List.mem_map.mp h1
  rw [← e]
  exact ⟨(ok.2.1 r hr).1, h3⟩
theorem gr_fall {rs : List Run} {g : Run} (h : grR rs = some g) : fallR rs g.1 = -g.2 ∧ 1 ≤ g.2 := by
  obtain ⟨_, h2, h3⟩ := gr_is h
  refine ⟨?_, h3⟩
  show lenR rs - 2 * cntK rs g.1 = -g.2
  omega
theorem other_fall {rs : List Run} {g : Run} {k : Str} (pos : ∀ r ∈ rs, 1 ≤ r.2) (h : grR rs = some g) (n : k ≠ g.1) : 0 < fallR rs k := by
  obtain ⟨h1, h2⟩ := gr_fall h
  have h3 := cntK_two n pos
  have e1 : fallR rs g.1 = lenR rs - 2 * cntK rs g.1 := rfl
  have e2 : fallR rs k = lenR rs - 2 * cntK rs k := rfl
  omega
theorem none_fall {rs : List Run} {k : Str} (pos : ∀ r ∈ rs, 1 ≤ r.2) (h : grR rs = none) : 0 ≤ fallR rs k := by
  have e2 : fallR rs k = lenR rs - 2 * cntK rs k := rfl
  refine Classical.byContradiction fun c => ?_
  have m : lenR rs < 2 * cntK rs k := by omega
  have hk : k ∈ rs.map (·.1) := by
    refine Classical.byContradiction fun z => ?_
    have c0 : cntK rs k = 0 := by
      unfold cntK
      rw [List.filter_eq_nil_iff.mpr fun r hr => by
        intro e
        exact z (List.mem_map.mpr ⟨r, hr, of_decide_eq_true e⟩)]
      rfl
    have := len_nonneg pos
    omega
  rw [gr_some pos hk m] at h
  cases h
theorem gf_of {rs : List Run} {g : Run} {s : Option Run} (l1 : 1 ≤ lenR rs) (ps : PosO s) (h : lenR rs ≤ sgR g.1 s) : gfB rs (some g) s = true := by
  cases s with
  | none =>
    have h : lenR rs ≤ 0 := h
    omega
  | some r =>
    have r1 := ps r rfl
    have h : lenR rs ≤ if r.1 = g.1 then r.2 else -r.2 := h
    by_cases c : r.1 = g.1
    · rw [if_pos c] at h
      show (decide (r.1 = g.1) && decide (lenR rs ≤ r.2)) = true
      rw [decide_eq_true c, decide_eq_true h]
      rfl
    · rw [if_neg c] at h
      omega
theorem gf_is {rs : List Run} {g : Run} {s : Option Run} (h : gfB rs (some g) s = true) : ∃ m, s = some (g.1, m) ∧ lenR rs ≤ m := by
  cases s with
  | none => cases h
  | some r =>
    have h : (decide (r.1 = g.1) && decide (lenR rs ≤ r.2)) = true := h
    rw [Bool.and_eq_true] at h
    have h1 := of_decide_eq_true h.1
    exact ⟨r.2, by rw [← h1], of_decide_eq_true h.2⟩
theorem course_grow {rs : List Run} {g : Run} {s : Option Run} {N : Int} (pos : ∀ r ∈ rs, 1 ≤ r.2) (l4 : lenR rs ≤ 400) (hg : grR rs = some g) (ps : PosO s) (low : Low0 rs s) (h0 : 0 ≤ N) :
    ∃ k, k ≤ 800 ∧ CEnd rs (some g) N s k ∧ ((k : Int) < N → ∃ m, itS rs s k = some (g.1, m) ∧ lenR rs ≤ m) := by
  obtain ⟨gf, g1⟩ := gr_fall hg
  have cl := cntK_le (k := g.1) pos
  have ef : fallR rs g.1 = lenR rs - 2 * cntK rs g.1 := rfl
  have l1 : 1 ≤ lenR rs := by
    have := cntK_pos (k := g.1) pos
    omega
  have lo : -lenR rs < sgR g.1 s := by
    cases s with
    | none => show -lenR rs < 0; omega
    | some r =>
      have r1 := ps r rfl
      show -lenR rs < if r.1 = g.1 then r.2 else -r.2
      by_cases c : r.1 = g.1
      · rw [if_pos c]; omega
      · rw [if_neg c]
        have := other_fall pos hg c
        rcases low r rfl with h | h <;> omega
  have sg := sg_it (k := g.1) pos ps (by omega)
  rw [gf] at sg
  have up : ∀ i : Nat, sgR g.1 s + (i : Int) ≤ sgR g.1 (itS rs s i) := fun i => by
    have h1 := sg i
    have h2 : (i : Int) * 1 ≤ (i : Int) * - -g.2 := Int.mul_le_mul_of_nonneg_left (by omega) (by omega)
    rw [Int.mul_one] at h2
    omega
  have inc : ∀ i j : Nat, j < i → itS rs s j ≠ itS rs s i := fun i j h e => by
    have h1 := sg_it (k := g.1) (s := itS rs s j) pos (itS_pos pos ps j) (by omega) (i - j)
    rw [← itS_add, show j + (i - j) = i by omega, ← e, gf] at h1
    have h2 : ((i - j : Nat) : Int) * 1 ≤ ((i - j : Nat) : Int) * - -g.2 := Int.mul_le_mul_of_nonneg_left (by omega) (by omega)
    rw [Int.mul_one] at h2
    omega
  obtain ⟨k, k8, pk, nk⟩ := least_of (p := fun i => N < (i : Int) + 1 ∨ gfB rs (some g) (itS rs s i) = true) (n := 800) (.inr (gf_of l1 (itS_pos pos ps _) (by
    have := up 800
    omega)))
  refine ⟨k, k8, ⟨fun i hi => ?_, pk.imp id .inl⟩, fun hk => ?_⟩
  · have z := nk i hi
    refine ⟨?_, ?_, fun j hj => inc i j hj⟩
    · exact Classical.byContradiction fun c => z (.inl (by omega))
    · exact Bool.eq_false_iff.mpr fun c => z (.inr c)
  · rcases pk with c | c
    · omega
    · exact gf_is c
/-! without growth -/
theorem nodup_subR {α : Type} [DecidableEq α] : ∀ (l B : List α), l.Nodup → (∀ x ∈ l, x ∈ B) → l.length ≤ B.length
  | [], _, _, _ => Nat.zero_le _
  | x :: l, B, nd, sub => by
    obtain ⟨n1, n2⟩ := List.nodup_cons.mp nd
    have hx := sub x List.mem_cons_self
    have h1 := nodup_subR l (B.erase x) n2 fun y hy => (List.mem_erase_of_ne (fun e => n1 (by rw [← e]; exact hy))).mpr (sub y (List.mem_cons_of_mem _ hy))
    have h2 := List.length_erase_of_mem hx
    have h3 := List.length_pos_of_mem hx
    rw [List.length_cons]
    omega
/-- the states with few waiting items of these kinds -/
def boxR (ks : List Str) (m : Nat) : List (Option Run) := none :: ks.flatMap fun k => (List.range m).map fun (i : Nat) => (some (k, (i : Int) + 1) : Option Run)
theorem box_len (ks : List Str) (m : Nat) : (boxR ks m).length = 1 + ks.length * m := by
  unfold boxR
  rw [List.length_cons]
  have : (ks.flatMap fun k => (List.range m).map fun (i : Nat) => (some (k, (i : Int) + 1) : Option Run)).length = ks.length * m := by
    induction ks with
    | nil => simp
    | cons k t ih => rw [List.flatMap_cons, List.length_append, ih, List.length_map, List.length_range, List.length_cons, Nat.add_mul, Nat.one_mul, Nat.add_comm]
  omega
theorem box_mem {ks : List Str} {m : Nat} {s : Option Run} (h : ∀ r, s = some r → r.1 ∈ ks ∧ 1 ≤ r.2 ∧ r.2 ≤ (m : Int)) : s ∈ boxR ks m := by
  cases s with
  | none => exact List.mem_cons_self ..
  | some r =>
    obtain ⟨h1, h2, h3⟩ := h r rfl
    refine List.mem_cons_of_mem _ (List.mem_flatMap.mpr ⟨r.1, h1, List.mem_map.mpr ⟨(r.2 - 1).toNat, List.mem_range.mpr (by omega), ?_⟩⟩)
    rw [show (((r.2 - 1).toNat : Nat) : Int) + 1 = r.2 by omega]
/-- what a round of few items does to a state: its kind and its number -/
theorem stI_box {ks : List Str} : ∀ (l : List Str) (s : Option Run) (m : Int), (∀ x ∈ l, x ∈ ks) → PosO s → (∀ r, s = some r → r.1 ∈ ks ∧ r.2 ≤ m) → 0 ≤ m → ∀ r, stI l s = some r → r.1 ∈ ks ∧ r.2 ≤ m + (l.length : Int)
  | [], s, m, _, _, h, m0 => fun r e => by
    have := h r e
    exact ⟨this.1, by show r.2 ≤ m + 0; omega⟩
  | x :: t, s, m, hk, hp, h, m0 => fun r e => by
    have hx := hk x (List.mem_cons_self ..)
    have := stI_box t (stepR s x 1) (m + 1) (fun y hy => hk y (List.mem_cons_of_mem _ hy)) (stepR_pos hp (by decide)) (fun q eq => by
      cases s with
      | none =>
        cases eq
        exact ⟨hx, by show (1 : Int) ≤ m + 1; omega⟩
      | some p =>
        obtain ⟨p1, p2⟩ := h p rfl
        have p3 := hp p rfl
        by_cases c : p.1 = x
        · rw [step_same c] at eq
          cases eq
          exact ⟨hx, by show p.2 + 1 ≤ m + 1; omega⟩
        · rw [step_other c] at eq
          split at eq
          · cases eq
            exact ⟨p1, by show p.2 - 1 ≤ m + 1; omega⟩
          · split at eq
            · cases eq
            · cases eq
              exact ⟨hx, by show -(p.2 - 1) ≤ m + 1; omega⟩) (by omega) r e
    refine ⟨this.1, ?_⟩
    have h2 := this.2
    rw [List.length_cons]
    omega
end UP

set_option Elab.async false
set_option linter.all false
set_option maxRecDepth 100000
set_option maxHeartbeats 4000000
set_option pp.maxSteps 500
namespace UP
open PySem PySem.Spec PyProof.Rows L2
theorem runs_le : ∀ {rs : List Run}, (∀ r ∈ rs, 1 ≤ r.2) → (rs.length : Int) ≤ lenR rs
  | [], _ => Int.le_refl _
  | r :: l, h => by
    have h1 := h r (List.mem_cons_self ..)
    have h2 := runs_le (rs := l) fun x hx => h x (List.mem_cons_of_mem _ hx)
    rw [lenR_cons, List.length_cons]
    omega
theorem with_self {r : Run} (h : 1 ≤ r.2) : withR r.1 r.2 = some r := with_pos (by omega)
/-- without growth few items stay few -/
theorem stay_box {rs : List Run} {ks : List Str} {s : Option Run} (pos : ∀ r ∈ rs, 1 ≤ r.2) (hg : grR rs = none) (hk : ∀ r ∈ rs, r.1 ∈ ks) (ps : PosO s) (h : ∀ r, s = some r → r.1 ∈ ks ∧ r.2 ≤ 2 * lenR rs) : ∀ r, stR rs s = some r → r.1 ∈ ks ∧ r.2 ≤ 2 * lenR rs := by
  intro q eq
  have l0 := len_nonneg pos
  have kit : ∀ x ∈ itR rs, x ∈ ks := fun x hx => by
    obtain ⟨r, hr, e⟩ := List.mem_map.mp ((kinds_it pos).mp hx)
    rw [← e]
    exact hk r hr
  cases s with
  | none =>
    rw [st_items _ _ ps pos] at eq
    have := stI_box (ks := ks) (itR rs) none 0 kit ps (fun r e => by cases e) (Int.le_refl _) q eq
    rw [it_len pos] at this
    exact ⟨this.1, by have := this.2; omega⟩
  | some r =>
    obtain ⟨h1, h2⟩ := h r rfl
    have r1 := ps r rfl
    by_cases c : lenR rs ≤ r.2
    · rw [← with_self r1, far_round pos c] at eq
      have nf := none_fall (k := r.1) pos hg
      unfold withR at eq
      split at eq
      · cases eq
      · cases eq
        exact ⟨h1, by show r.2 - fallR rs r.1 ≤ _; omega⟩
    · rw [st_items _ _ ps pos] at eq
      have := stI_box (ks := ks) (itR rs) (some r) (lenR rs - 1) kit ps (fun q e => by cases e; exact ⟨h1, by omega⟩) (by omega) q eq
      rw [it_len pos] at this
      exact ⟨this.1, by have := this.2; omega⟩
theorem course_stay {rs : List Run} {s : Option Run} {N : Int} (pos : ∀ r ∈ rs, 1 ≤ r.2) (l4 : lenR rs ≤ 400) (hg : grR rs = none) (ps : PosO s) (low : Low0 rs s) :
    ∃ k, k ≤ 400000 ∧ CEnd rs none N s k := by
  have fin : (∃ i, i ≤ 400000 ∧ ∃ j, j < i ∧ itS rs s j = itS rs s i) → ∃ k, k ≤ 400000 ∧ CEnd rs none N s k := by
    rintro ⟨i, hi, hr⟩
    obtain ⟨k, ki, pk, nk⟩ := least_of (p := fun i => N < (i : Int) + 1 ∨ ∃ j, j < i ∧ itS rs s j = itS rs s i) (n := i) (.inr hr)
    refine ⟨k, by omega, ⟨fun i hi => ⟨?_, rfl, fun j hj e => nk i hi (.inr ⟨j, hj, e⟩)⟩, pk.imp id .inr⟩⟩
    exact Classical.byContradiction fun c => nk i hi (.inl (by omega))
  by_cases fx : ∃ r, s = some r ∧ lenR rs ≤ r.2
  · obtain ⟨r, rfl, hr⟩ := fx
    refine fin ⟨1, by decide, 0, by decide, ?_⟩
    have nf := none_fall (k := r.1) pos hg
    have r1 := ps r rfl
    have f0 : fallR rs r.1 = 0 := by
      rcases low r rfl with h | h <;> omega
    show some r = stR rs (some r)
    have := far_round (k := r.1) pos hr
    rw [with_self r1, f0, Int.sub_zero, with_self r1] at this
    exact this.symm
  · refine fin ?_
    have inv : ∀ i, ∀ r, itS rs s i = some r → r.1 ∈ (rs.map (·.1) ++ (s.map (·.1)).toList) ∧ r.2 ≤ 2 * lenR rs := by
      intro i
      induction i with
      | zero =>
        intro r e
        have e : s = some r := e
        have : r.2 < lenR rs := Classical.byContradiction fun c => fx ⟨r, e, by omega⟩
        have := len_nonneg pos
        rw [e]
        exact ⟨List.mem_append_right _ (by simp), by omega⟩
      | succ i ih => exact stay_box pos hg (fun r hr => List.mem_append_left _ (List.mem_map.mpr ⟨r, hr, rfl⟩)) (itS_pos pos ps i) ih
    have bx : ∀ i, itS rs s i ∈ boxR (rs.map (·.1) ++ (s.map (·.1)).toList) 800 := fun i => box_mem fun r e => ⟨(inv i r e).1, itS_pos pos ps i r e, by have := (inv i r e).2; omega⟩
    have bl : (boxR (rs.map (·.1) ++ (s.map (·.1)).toList) 800).length < 400000 := by
      rw [box_len, List.length_append, List.length_map]
      have h1 := runs_le pos
      have h2 : (s.map (·.1)).toList.length ≤ 1 := by cases s <;> simp
      omega
    refine Classical.byContradiction fun no => ?_
    have nd : ((List.range 400001).map (itS rs s)).Nodup := List.pairwise_map.mpr (List.Pairwise.imp_of_mem (fun {a b} _ hb c e => no ⟨b, by have := List.mem_range.mp hb; omega, a, c, e⟩) List.pairwise_lt_range)
    have := nodup_subR _ _ nd fun x hx => by
      obtain ⟨i, _, rfl⟩ := List.mem_map.mp hx
      exact bx i
    rw [List.length_map, List.length_range] at this
    omega
theorem start_at {rs : List Run} {s : Option Run} {N : Int} {k j : Nat} {g : Option Run} (ce : CEnd rs g N s k) (hj : j < k) (e : itS rs s j = itS rs s k) : startR (courseR rs s k) = j := by
  unfold startR
  have lt : j < (courseR rs s k).length := by rw [crs_len]; omega
  have at' : ∀ i (h : i < (courseR rs s k).length), (courseR rs s k)[i] = itS rs s i := fun i h => by
    have := crs_at (rs := rs) (st := s) (n := k) (i := i) (by rw [crs_len] at h; omega)
    rw [List.getElem?_eq_getElem h] at this
    exact Option.some.inj this
  rw [List.findIdx_eq lt]
  refine ⟨?_, fun i hi => ?_⟩
  · rw [at', crs_last]
    exact decide_eq_true e
  · rw [at', crs_last]
    refine decide_eq_false fun z => (ce.go j hj).2.2 i hi ?_
    rw [z, e]
/-- a course that has come back goes on as before -/
theorem itS_per {rs : List Run} {s : Option Run} {j k : Nat} (hj : j < k) (e : itS rs s j = itS rs s k) : ∀ (q m : Nat), itS rs s (j + m + q * (k - j)) = itS rs s (j + m)
  | 0, m => by rw [Nat.zero_mul, Nat.add_zero]
  | q + 1, m => by
    rw [show j + m + (q + 1) * (k - j) = k + (m + q * (k - j)) by rw [Nat.add_mul, Nat.one_mul]; omega, itS_add, ← e, ← itS_add, show j + (m + q * (k - j)) = j + m + q * (k - j) by omega]
    exact itS_per hj e q m
theorem itS_grow {rs : List Run} {g : Run} (pos : ∀ r ∈ rs, 1 ≤ r.2) (hg : grR rs = some g) : ∀ (j : Nat) (m : Int), lenR rs ≤ m → 1 ≤ m → itS rs (some (g.1, m)) j = some (g.1, m + (j : Int) * g.2)
  | 0, m, _, _ => by
    show some (g.1, m) = _
    rw [show ((0 : Nat) : Int) = 0 from rfl, Int.zero_mul, Int.add_zero]
  | j + 1, m, h, m1 => by
    obtain ⟨gf, g1⟩ := gr_fall hg
    have jg : 0 ≤ (j : Int) * g.2 := Int.mul_nonneg (by omega) (by omega)
    show stR rs (itS rs (some (g.1, m)) j) = _
    rw [itS_grow pos hg j m h m1, ← with_self (r := (g.1, m + (j : Int) * g.2)) (by show 1 ≤ m + (j : Int) * g.2; omega)]
    show stR rs (withR g.1 (m + (j : Int) * g.2)) = _
    rw [far_round pos (by omega), gf, with_pos (by omega), show ((j + 1 : Nat) : Int) = (j : Int) + 1 by omega, Int.add_mul, Int.one_mul]
    congr 2
    omega
/-- after_rounds is the round, as often as told -/
theorem rounds_all {rs : List Run} {st : Option Run} {n : Int} (ok : SeqOk rs) (l4 : lenR rs ≤ 400) (so : StOk st) (h0 : 0 ≤ n) : ∃ k, AftOk rs st n k ∧ aftR rs st n k = itS rs st n.toNat := by
  have pos : ∀ r ∈ rs, 1 ≤ r.2 := fun r hr => (ok.2.1 r hr).2.1
  have ps : PosO st := fun r e => (so r e).2
  obtain ⟨f0, f1, f2⟩ := ff_bd (rs := rs) (st := st) h0
  have es : fnR rs st (ff rs st n) = itS rs st (ff rs st n).toNat := by
    have := fall_it pos ps (ff rs st n).toNat (by omega)
    rw [show (((ff rs st n).toNat : Nat) : Int) = ff rs st n by omega] at this
    exact this.symm
  by_cases c : n = ff rs st n
  · refine ⟨0, ⟨⟨fun i hi => absurd hi (Nat.not_lt_zero _), .inl (by omega)⟩, by decide, fun _ h => absurd h (by omega), fun _ h => absurd h (by omega)⟩, ?_⟩
    unfold aftR contR
    rw [crs_len, if_pos (by omega), show (n - ff rs st n).toNat = 0 by omega, List.getD_eq_getElem?_getD, crs_at (Nat.le_refl 0)]
    show fnR rs st (ff rs st n) = _
    rw [es, ← c]
  · have ef : ff rs st n = frR rs st := by
      unfold ff at c ⊢
      split
      · rfl
      · rename_i z
        rw [if_neg z] at c
        exact absurd rfl c
    have low : Low0 rs (fnR rs st (ff rs st n)) := by rw [ef]; exact fallen_low pos ps
    have psf : PosO (fnR rs st (ff rs st n)) := by rw [es]; exact itS_pos pos ps _
    have tot : ∀ m : Nat, itS rs (fnR rs st (ff rs st n)) m = itS rs st ((ff rs st n).toNat + m) := fun m => by rw [es, ← itS_add]
    generalize hs : fnR rs st (ff rs st n) = s at *
    obtain ⟨N, hN⟩ : ∃ N : Nat, n - ff rs st n = (N : Int) := ⟨(n - ff rs st n).toNat, by omega⟩
    have goal : itS rs st n.toNat = itS rs s N := by rw [tot, show (ff rs st n).toNat + N = n.toNat by omega]
    have first : ∀ k : Nat, N ≤ k → contR (courseR rs s k) (grR rs) (n - ff rs st n) = itS rs st n.toNat := fun k hk => by
      unfold contR
      rw [crs_len, if_pos (by omega), hN, goal, List.getD_eq_getElem?_getD, show (((N : Nat) : Int)).toNat = N by omega, crs_at hk]
      rfl
    cases hg : grR rs with
    | some g =>
      obtain ⟨k, k8, ce, far⟩ := course_grow (N := n - ff rs st n) pos l4 hg psf low (by omega)
      refine ⟨k, ⟨by rw [hg, hs]; exact ce, by omega, (fun h => by rw [hg] at h; cases h), fun _ hk => ?_⟩, ?_⟩
      · rw [hs]
        obtain ⟨m, e, _⟩ := far hk
        rw [e]
        intro z
        cases z
      · unfold aftR
        rw [hs]
        by_cases hk : N ≤ k
        · exact first k hk
        · obtain ⟨m, e, hm⟩ := far (by omega)
          have m1 : 1 ≤ m := itS_pos pos psf k _ e
          unfold contR
          rw [crs_len, if_neg (by omega), hg, crs_last, e, goal, show N = k + (N - k) by omega, itS_add, e, itS_grow pos hg _ _ hm m1]
          show some (g.1, m + (n - ff rs st n - (((k + 1 : Nat) : Int) - 1)) * g.2) = _
          congr 3
          congr 1
          omega
    | none =>
      obtain ⟨k, k4, ce⟩ := course_stay (N := n - ff rs st n) pos l4 hg psf low
      have back : (k : Int) < n - ff rs st n → ∃ j, j < k ∧ itS rs s j = itS rs s k := fun hk => by
        rcases ce.stop with h | h | h
        · omega
        · cases h
        · exact h
      refine ⟨k, ⟨by rw [hg, hs]; exact ce, k4, fun _ hk => ?_, fun h => absurd hg h⟩, ?_⟩
      · rw [hs]
        obtain ⟨j, hj, e⟩ := back hk
        rw [start_at ce hj e]
        exact hj
      · unfold aftR
        rw [hs]
        by_cases hk : N ≤ k
        · exact first k hk
        · obtain ⟨j, hj, e⟩ := back (by omega)
          unfold contR
          rw [crs_len, if_neg (by omega), hg]
          show (courseR rs s k).getD (startR (courseR rs s k) + ((n - ff rs st n - (startR (courseR rs s k) : Nat)) % (((k + 1 : Nat) : Int) - 1 - (startR (courseR rs s k) : Nat))).toNat) none = _
          rw [start_at ce hj e, goal, hN]
          have e1 : (((N : Nat) : Int) - (j : Nat)) % (((k + 1 : Nat) : Int) - 1 - (j : Nat)) = (((N - j) % (k - j) : Nat) : Int) := by
            rw [show ((N : Nat) : Int) - (j : Nat) = ((N - j : Nat) : Int) by omega, show ((k + 1 : Nat) : Int) - 1 - (j : Nat) = ((k - j : Nat) : Int) by omega]
            rfl
          have lt : (N - j) % (k - j) < k - j := Nat.mod_lt _ (by omega)
          have dm := Nat.div_add_mod (N - j) (k - j)
          rw [e1, show ((((N - j) % (k - j) : Nat) : Int)).toNat = (N - j) % (k - j) by omega, List.getD_eq_getElem?_getD, crs_at (by omega)]
          show itS rs s (j + (N - j) % (k - j)) = _
          rw [← itS_per hj e ((N - j) / (k - j)) ((N - j) % (k - j))]
          congr 1
          rw [Nat.mul_comm] at dm
          omega
end UP

set_option Elab.async false
set_option linter.all false
set_option maxRecDepth 100000
set_option maxHeartbeats 4000000
set_option pp.maxSteps 500
namespace UP
open PySem PySem.Spec PyProof.Rows L2
section
variable {P : Program} {w : World} {K : PySem.W.Frag} {mg : Str → Option Value} {base : Heap}
/-! after_rounds: slots 0:sequence 1:rounds 2:state 3:runs 4:growth 5:falling 6:states -/
abbrev s_after_rounds : Stmt := topS 38
theorem sc_after_rounds : FnScope ["sequence", "rounds", "state", "runs", "growth", "falling", "states"] ["sequence", "rounds", "state"] (defScope s_after_rounds) := ⟨rfl, rfl, rfl, by decide +kernel, rfl, by decide +kernel, by decide +kernel⟩
def sp_after_rounds : Sp := fun vs H Q _ => ∃ (v z : V) (rs : List Run) (st : Option Run) (n : Int), vs = [v, .int n, z] ∧ RunsG H v rs ∧ SeqOk rs ∧ lenR rs ≤ 400 ∧ 0 ≤ n ∧ n ≤ 1000000000000000000000000000000 ∧ StG H z st ∧ StOk st ∧ ∀ H' v', Same H H' → StV H' v' (itS rs st n.toNat) → Q v' H'
theorem ok_after_rounds (D : DfD K mg "after_rounds" s_after_rounds [.non]) (T : Tx mg) (G_checked_short_runs : Has P w K mg base 6 "checked_short_runs" ["sequence"] sp_checked_short_runs) (G_is_within : Has P w K mg base 2 "is_within" ["value", "low", "high"] sp_is_within) (G_checked_state : Has P w K mg base 3 "checked_state" ["state"] sp_checked_state) (G_growth_in : Has P w K mg base 7 "growth_in" ["runs"] sp_growth_in)
    (G_falling_rounds : Has P w K mg base 3 "falling_rounds" ["runs", "state"] sp_falling_rounds) (G_course_of : HasDv (.int 1000000000000000000000000000000) P w K mg base 4 "course_of" ["runs", "growth", "state", "most"] 3 sp_course_of) (G_fallen : Has P w K mg base 3 "fallen" ["runs", "state", "rounds"] sp_fallen) (G_continued : Has P w K mg base 1 "continued" ["states", "growth", "rounds"] sp_continued) :
    HasD P w K mg base 8 "after_rounds" ["sequence", "rounds", "state"] 2 "state" sp_after_rounds := by
  refine has_ofD D sc_after_rounds rfl (fun T kV doc pm an cdv ct us its h1 h2 => ?_) (fun T kV doc pm an cdv ct us its h1 h2 => ?_) (fun T kV doc pm an cdv ct us its v h1 h2 => ?_) (fun vs H Q E h => ?_) (fun f cdv A outer s₀ H vs Q E hr h => ?_)
  · match us, its, h1, h2 with
    | [_, _, _], [_], _, _ => exact ⟨_, rfl, rfl⟩
  · match us, its, h1, h2 with
    | [_, _], [_], _, _ => exact ⟨_, rfl, rfl⟩
  · match us, its, h1, h2 with
    | [_, _], [_], _, _ => exact ⟨_, rfl, rfl⟩
  · obtain ⟨_, _, _, _, _, rfl, _⟩ := h
    rfl
  · obtain ⟨v, z, rs, st, n, rfl, hv, ok, l4, n0, n1, hz, so, q⟩ := h
    have pos : ∀ r ∈ rs, 1 ≤ r.2 := fun r hr => (ok.2.1 r hr).2.1
    refine ⟨_, (pss_cons (ps_set (i := 3) sc_after_rounds.nd rfl (by first | exact Or.inl rfl | exact Or.inr rfl) (pe_callH G_checked_short_runs (hr.mono (by omega)) (by rfl) (pa_cons (pv 0) pa_nil)))
    (pss_cons (ps_if (pt_not (pt_val (pe_callH G_is_within (hr.mono (by omega)) (by rfl) (pa_cons (pv 1) (pa_cons pe_int (pa_cons (pe_glI T.c_MAX_ROUNDS (by rfl)) pa_nil)))))) (pss_one ps_never) pss_nil)
    (pss_cons (ps_set (i := 2) sc_after_rounds.nd rfl (by first | exact Or.inl rfl | exact Or.inr rfl) (pe_callH G_checked_state (hr.mono (by omega)) (by rfl) (pa_cons (pv 2) pa_nil)))
    (pss_cons (ps_set (i := 4) sc_after_rounds.nd rfl (by first | exact Or.inl rfl | exact Or.inr rfl) (pe_callH G_growth_in (hr.mono (by omega)) (by rfl) (pa_cons (pv 3) pa_nil)))
    (pss_cons (ps_set (i := 5) sc_after_rounds.nd rfl (by first | exact Or.inl rfl | exact Or.inr rfl) (pe_callB (call_min2 rfl) (by rfl) T.n_min (by decide +kernel) (pa_cons (pv 1) (pa_cons (pe_callH G_falling_rounds (hr.mono (by omega)) (by rfl) (pa_cons (pv 3) (pa_cons (pv 2) pa_nil))) pa_nil))))
    (pss_cons (ps_set (i := 6) sc_after_rounds.nd rfl (by first | exact Or.inl rfl | exact Or.inr rfl) (pe_callH G_course_of.has (hr.mono (by omega)) (by rfl) (pa_cons (pv 3) (pa_cons (pv 4) (pa_cons (pe_callH G_fallen (hr.mono (by omega)) (by rfl) (pa_cons (pv 3) (pa_cons (pv 2) (pa_cons (pv 5) pa_nil)))) (pa_cons (pe_op op_sub (pv 1) (pv 5)) pa_nil))))))
    (pss_one (ps_ret (pe_callH G_continued (hr.mono (by omega)) (by rfl) (pa_cons (pv 6) (pa_cons (pv 4) (pa_cons (pe_op op_sub (pv 1) (pv 5)) pa_nil)))))))))))), ?_⟩
    refine ⟨_, rfl, v, rs, rfl, hv, ok, l4, fun H1 p s1 np hp => ?_⟩
    refine ⟨_, rfl, n, 0, _, rfl, _, rfl, iteN ?_ ?_⟩
    · rw [decide_eq_true (by omega : 0 ≤ n ∧ n ≤ 1000000000000000000000000000000)]
      rfl
    refine ⟨_, rfl, z, st, rfl, hz.same s1, so, fun H2 v2 s2 h2 => ?_⟩
    have nb : n.natAbs < 2 ^ 100 := Nat.lt_of_le_of_lt (m := 1000000000000000000000000000000) (by omega) (by decide)
    obtain ⟨k, af, ea⟩ := rounds_all (n := n) ok l4 so n0
    rw [← ea] at q
    have s12 := s1.trans s2
    refine ⟨_, rfl, p, _, rfl, hp.same s2, ok, l4, fun H3 v3 s3 h3 => ?_⟩
    refine ⟨_, rfl, _, rfl, _, rfl, p, _, v2, _, rfl, (hp.same s2).same s3, ok, l4, h2.same s3, fun H4 s4 => ?_⟩
    have fb := ff_bd (rs := rs) (st := st) n0
    have s24 := s3.trans s4
    refine ⟨_, _, rfl, ?_⟩
    have em : (if frR rs st < n then frR rs st else n) = ff rs st n := rfl
    rw [em]
    refine ⟨_, rfl, _, rfl, _, rfl, _, rfl, _, rfl, p, _, v2, _, _, rfl, (hp.same s2).same s24, ok, l4, h2.same s24, fun h => fr_some h fb.1 fb.2.2, Nat.lt_of_le_of_lt (m := n.natAbs) (by omega) (Nat.lt_of_lt_of_le nb (Nat.pow_le_pow_right (by decide) (by decide))), fun H5 v5 s5 h5 => ?_⟩
    have s25 := s24.trans s5
    refine ⟨_, rfl, _, rfl, _, _, rfl, rfl, p, _, v3, v5, _, _, _, k, rfl, (hp.same s2).same s25, ok, (h3.same s4).same s5, h5, af.ce, af.few, fun H6 p6 s6 n6 h6 => ?_⟩
    have fo := fn_ok pos so fb.1 fb.2.2
    refine ⟨_, rfl, _, rfl, _, rfl, _, rfl, _, _, rfl, rfl, p6, v3, _, _, _, rfl, h6, ((h3.same s4).same s5).same s6, crs_ok ok.kinds fo, ?_, ?_, ?_, ?_, ?_, fun H7 v7 s7 h7 => q _ _ (s12.trans (s25.trans (s6.trans s7))) h7⟩
    · intro e
      have := congrArg List.length e
      rw [crs_len] at this
      cases this
    · rw [crs_len]
      have := af.few
      omega
    · omega
    · exact Nat.lt_of_le_of_lt (m := n.natAbs) (by omega) (Nat.lt_of_lt_of_le nb (Nat.pow_le_pow_right (by decide) (by decide)))
    · rw [crs_len, crs_last]
      intro hk
      refine ⟨fun e => ?_, fun g0 e => ⟨af.gro (by rw [e]; intro z; cases z) (by omega), gr_small pos l4 e⟩⟩
      have := af.ret e (by omega)
      omega
end
end UP

set_option Elab.async false
set_option linter.all false
set_option maxRecDepth 100000
set_option maxHeartbeats 4000000
set_option pp.maxSteps 400
namespace UP
open PySem PySem.Spec PyProof.Rows L2
/-! ### a round keeps the kind that waits, or leaves no more than its items -/
theorem chR_up (k : Str) (l : List Str) : chR l k ≤ (l.length : Int) := by
  rw [chR_cnt]
  have := List.count_le_length (a := k) (l := l)
  omega
theorem stI_two : ∀ (l : List Str) (s : Option Run), PosO s → ∀ r, stI l s = some r → (∃ q, s = some q ∧ r.1 = q.1 ∧ r.2 = q.2 + chR l q.1) ∨ r.2 ≤ (l.length : Int)
  | [], s, _, r, h => .inl ⟨r, h, rfl, by show r.2 = r.2 + 0; omega⟩
  | x :: t, s, ps, r, h => by
    have h : stI t (stepR s x 1) = some r := h
    have hl : ((x :: t).length : Int) = (t.length : Int) + 1 := by rw [List.length_cons]; omega
    rcases stI_two t (stepR s x 1) (stepR_pos ps (by decide)) r h with ⟨q, e, k, n⟩ | le
    · cases s with
      | none =>
        have e : some (x, (1 : Int)) = some q := e
        cases e
        have := chR_up x t
        exact .inr (by rw [hl, n]; show 1 + chR t x ≤ _; omega)
      | some p =>
        have p1 := ps p rfl
        by_cases c : p.1 = x
        · rw [step_same c] at e
          cases e
          refine .inl ⟨p, rfl, by rw [k, c], ?_⟩
          rw [n, chR_cons, c, if_pos rfl]
          show p.2 + 1 + chR t x = _
          omega
        · rw [step_other c] at e
          by_cases c2 : 0 < p.2 - 1
          · rw [if_pos c2] at e
            cases e
            refine .inl ⟨p, rfl, k, ?_⟩
            rw [n, chR_cons, if_neg (fun z => c z.symm)]
            show p.2 - 1 + chR t p.1 = _
            omega
          · rw [if_neg c2, if_pos (by omega)] at e
            cases e
    · exact .inr (by rw [hl]; omega)
theorem stR_two {rs : List Run} {s : Option Run} (pos : ∀ r ∈ rs, 1 ≤ r.2) (ps : PosO s) {r : Run} (h : stR rs s = some r) : (∃ q, s = some q ∧ r.1 = q.1 ∧ r.2 = q.2 - fallR rs q.1) ∨ r.2 ≤ lenR rs := by
  rw [st_items _ _ ps pos] at h
  rcases stI_two _ _ ps _ h with ⟨q, e, k, n⟩ | le
  · rw [ch_fall pos] at n
    exact .inl ⟨q, e, k, by omega⟩
  · rw [it_len pos] at le
    exact .inr le
theorem stR_kind {rs : List Run} {s : Option Run} {ks : List Str} (pos : ∀ r ∈ rs, 1 ≤ r.2) (ps : PosO s) (hk : ∀ r ∈ rs, r.1 ∈ ks) (h : ∀ r, s = some r → r.1 ∈ ks) : ∀ r, stR rs s = some r → r.1 ∈ ks := by
  intro r e
  rw [st_items _ _ ps pos] at e
  cases s with
  | none =>
    exact (stI_box (ks := ks) (itR rs) none 0 (fun x hx => by
      obtain ⟨r, hr, rk⟩ := List.mem_map.mp ((kinds_it pos).mp hx)
      rw [← rk]
      exact hk r hr) ps (fun r e => by cases e) (Int.le_refl _) r e).1
  | some q =>
    exact (stI_box (ks := ks) (itR rs) (some q) q.2 (fun x hx => by
      obtain ⟨r, hr, rk⟩ := List.mem_map.mp ((kinds_it pos).mp hx)
      rw [← rk]
      exact hk r hr) ps (fun r e => by cases e; exact ⟨h _ rfl, Int.le_refl _⟩) (by have := ps q rfl; omega) r e).1
/-- it grows from here on -/
def RegR (rs : List Run) (s : Option Run) : Prop := ∃ g m, grR rs = some g ∧ s = some (g.1, m) ∧ lenR rs ≤ m ∧ 1 ≤ m
def BoxS (ks : List Str) (b : Nat) (s : Option Run) : Prop := ∀ r, s = some r → r.1 ∈ ks ∧ 1 ≤ r.2 ∧ r.2 ≤ (b : Int)
theorem box_step {rs : List Run} {s : Option Run} {ks : List Str} {b : Nat} (pos : ∀ r ∈ rs, 1 ≤ r.2) (hk : ∀ r ∈ rs, r.1 ∈ ks) (lb : lenR rs ≤ (b : Int)) (h : BoxS ks b s) : RegR rs (stR rs s) ∨ RegR rs s ∨ BoxS ks b (stR rs s) := by
  have ps : PosO s := fun r e => (h r e).2.1
  by_cases c : ∀ r, stR rs s = some r → r.2 ≤ (b : Int)
  · refine .inr (.inr fun r e => ⟨stR_kind pos ps hk (fun q e => (h q e).1) r e, ?_, c r e⟩)
    have := itS_pos pos ps 1 r e
    exact this
  · obtain ⟨r, hr⟩ := Classical.not_forall.mp c
    obtain ⟨e, gt⟩ := Classical.not_imp.mp hr
    rcases stR_two pos ps e with ⟨q, eq, k, n⟩ | le
    · have hq := h q eq
      -- q falls by less than nothing: it is the majority
      have neg : fallR rs q.1 < 0 := by omega
      have maj : lenR rs < 2 * cntK rs q.1 := by
        unfold fallR at neg
        omega
      have mem : q.1 ∈ rs.map (·.1) := by
        rw [← kinds_it pos]
        have := cntK_it q.1 pos
        have l0 := len_nonneg pos
        exact List.count_pos_iff.mp (by omega)
      have gr := gr_some pos mem maj
      by_cases big : lenR rs ≤ q.2
      · exact .inr (.inl ⟨_, q.2, gr, by rw [eq], big, hq.2.1⟩)
      · refine .inl ⟨_, r.2, gr, ?_, by omega, ?_⟩
        · rw [e]
          show some r = some (q.1, r.2)
          rw [← k]
        · have l0 := len_nonneg pos
          omega
    · omega
theorem reg_step {rs : List Run} {s : Option Run} (pos : ∀ r ∈ rs, 1 ≤ r.2) (h : RegR rs s) (j : Nat) : ∃ g m, grR rs = some g ∧ s = some (g.1, m) ∧ 1 ≤ g.2 ∧ lenR rs ≤ m ∧ 1 ≤ m ∧ itS rs s j = some (g.1, m + (j : Int) * g.2) := by
  obtain ⟨g, m, hg, rfl, h1, h2⟩ := h
  exact ⟨g, m, hg, rfl, (gr_fall hg).2, h1, h2, itS_grow pos hg j m h1 h2⟩
theorem reg_it {rs : List Run} {s : Option Run} (pos : ∀ r ∈ rs, 1 ≤ r.2) (h : RegR rs s) (j : Nat) : RegR rs (itS rs s j) := by
  obtain ⟨g, m, hg, _, g1, h1, h2, e⟩ := reg_step pos h j
  have : 0 ≤ (j : Int) * g.2 := Int.mul_nonneg (by omega) (by omega)
  exact ⟨g, _, hg, e, by omega, by omega⟩
theorem box_it {rs : List Run} {s : Option Run} {ks : List Str} {b : Nat} (pos : ∀ r ∈ rs, 1 ≤ r.2) (hk : ∀ r ∈ rs, r.1 ∈ ks) (lb : lenR rs ≤ (b : Int)) (h : BoxS ks b s) : ∀ t : Nat, RegR rs (itS rs s t) ∨ BoxS ks b (itS rs s t)
  | 0 => .inr h
  | t + 1 => by
    rcases box_it pos hk lb h t with c | c
    · exact .inl (reg_it pos c 1)
    · rcases box_step pos hk lb c with d | d | d
      · exact .inl d
      · exact .inl (reg_it pos d 1)
      · exact .inr d
/-- among so many states one comes again, or they grow -/
theorem many_reg {rs : List Run} {s : Option Run} {ks : List Str} {b T : Nat} (pos : ∀ r ∈ rs, 1 ≤ r.2) (hk : ∀ r ∈ rs, r.1 ∈ ks) (lb : lenR rs ≤ (b : Int)) (h : BoxS ks b s) (few : 1 + ks.length * b ≤ T) (diff : ∀ i j, j < i → i ≤ T → itS rs s j ≠ itS rs s i) : RegR rs (itS rs s T) := by
  refine Classical.byContradiction fun no => ?_
  have box : ∀ t, t ≤ T → BoxS ks b (itS rs s t) := fun t ht => by
    rcases box_it pos hk lb h t with c | c
    · exfalso
      have := reg_it pos c (T - t)
      rw [← itS_add, show t + (T - t) = T by omega] at this
      exact no this
    · exact c
  have nd : ((List.range (T + 1)).map (itS rs s)).Nodup := by
    refine List.pairwise_map.mpr (List.pairwise_iff_getElem.mpr fun i j hi hj lt => ?_)
    rw [List.length_range] at hi hj
    rw [List.getElem_range, List.getElem_range]
    exact diff j i lt (by omega)
  have := nodup_subR _ (boxR ks b) nd fun x hx => by
    obtain ⟨t, ht, rfl⟩ := List.mem_map.mp hx
    exact box_mem (box t (by have := List.mem_range.mp ht; omega))
  rw [List.length_map, List.length_range, box_len] at this
  omega
/-- what is due, from the first m + 1 states -/
theorem due_grow {rs : List Run} {s : Option Run} {ks : List Str} {b : Nat} (pos : ∀ r ∈ rs, 1 ≤ r.2) (hk : ∀ r ∈ rs, r.1 ∈ ks) (lb : lenR rs ≤ (b : Int)) (h : BoxS ks b s) (few : 1 + ks.length * b ≤ 298) (diff : ∀ i j, j < i → i ≤ 299 → itS rs s j ≠ itS rs s i) :
    ∃ (k : Str) (m g : Int), 1 ≤ g ∧ g ≤ lenR rs ∧ itS rs s 298 = some (k, m) ∧ itS rs s 299 = some (k, m + g) ∧ ∀ n : Nat, 299 ≤ n → itS rs s n = some (k, (m + g) + g * ((n : Int) + 1 - 300)) := by
  have reg := many_reg (T := 298) pos hk lb h few fun i j hj hi => diff i j hj (by omega)
  obtain ⟨g, m, hg, e, g1, l1, m1, _⟩ := reg_step pos reg 0
  have at_ : ∀ j, itS rs s (298 + j) = some (g.1, m + (j : Int) * g.2) := fun j => by
    rw [itS_add, e]
    exact itS_grow pos hg j m l1 m1
  have gl : g.2 ≤ lenR rs := by
    have h1 := (gr_is hg).2.1
    have h2 := cntK_le (k := g.1) pos
    omega
  refine ⟨g.1, m, g.2, g1, gl, e, ?_, fun n hn => ?_⟩
  · have := at_ 1
    rw [show ((1 : Nat) : Int) * g.2 = g.2 by omega] at this
    exact this
  · have := at_ (n - 298)
    rw [show 298 + (n - 298) = n by omega] at this
    rw [this]
    congr 2
    rw [show ((n - 298 : Nat) : Int) = ((n : Int) + 1 - 300) + 1 by omega, Int.add_mul, Int.one_mul, Int.mul_comm g.2]
    omega
/-- a state that comes again -/
theorem due_again {rs : List Run} {s : Option Run} {j m : Nat} (hj : j < m) (e : itS rs s j = itS rs s m) {n : Nat} (hn : j ≤ n) : itS rs s n = itS rs s (j + (n - j) % (m - j)) := by
  have h := itS_per hj e ((n - j) / (m - j)) ((n - j) % (m - j))
  rw [← h]
  congr 1
  have := Nat.mod_add_div (n - j) (m - j)
  rw [Nat.mul_comm] at this
  omega
/-- far from the end -/
theorem far_it {rs : List Run} {k : Str} {n : Int} (pos : ∀ r ∈ rs, 1 ≤ r.2) : ∀ t : Nat, (∀ i : Nat, i < t → lenR rs ≤ n - (i : Int) * fallR rs k) → itS rs (withR k n) t = withR k (n - (t : Int) * fallR rs k)
  | 0, _ => by
    show withR k n = _
    rw [show ((0 : Nat) : Int) * fallR rs k = 0 by rw [show ((0 : Nat) : Int) = 0 from rfl, Int.zero_mul], Int.sub_zero]
  | t + 1, h => by
    show stR rs (itS rs (withR k n) t) = _
    rw [far_it pos t fun i hi => h i (by omega), far_round pos (h t (by omega)), show ((t + 1 : Nat) : Int) = (t : Int) + 1 by omega, Int.add_mul, Int.one_mul]
    congr 1
    omega
theorem fall_le {rs : List Run} (pos : ∀ r ∈ rs, 1 ≤ r.2) (k : Str) : fallR rs k ≤ lenR rs := by
  have := cntK_pos (k := k) pos
  unfold fallR
  omega
theorem itS_nil (s : Option Run) : ∀ n, itS [] s n = s
  | 0 => rfl
  | n + 1 => by
    show stR [] (itS [] s n) = s
    rw [itS_nil s n]
    rfl
end UP

set_option Elab.async false
set_option linter.all false
set_option maxRecDepth 100000
set_option maxHeartbeats 8000000
set_option pp.maxSteps 600
namespace UP
open PySem PySem.Spec PyProof.Rows L2
theorem cut_init (xs : List V) (x : V) : cutV (xs ++ [x]) none (some (-1)) = xs := by
  have e : HT.sIx (xs ++ [x]).length (xs ++ [x]).length (some (-1)) = xs.length := by
    unfold HT.sIx
    simp
    omega
  unfold cutV
  rw [e, HT.sIx_none, List.drop_zero, Nat.sub_zero, List.take_append_of_le_length (Nat.le_refl _), List.take_length]
theorem any_st (sts : List (Option Run)) (s : Option Run) : (sts.map dOt).any (fun z => PyData.eqv z (dOt s)) = decide (s ∈ sts) := by
  induction sts with
  | nil => rfl
  | cons e t ih =>
    rw [List.map_cons, List.any_cons, ih, eqv_o]
    by_cases c : e = s
    · rw [decide_eq_true c, Bool.true_or, decide_eq_true (by rw [c]; exact List.mem_cons_self ..)]
    · rw [decide_eq_false c, Bool.false_or]
      by_cases m : s ∈ t
      · rw [decide_eq_true m, decide_eq_true (List.mem_cons_of_mem _ m)]
      · rw [decide_eq_false m, decide_eq_false]
        intro z
        rcases List.mem_cons.mp z with z | z
        · exact c z.symm
        · exact m z
theorem seq_gen {s rest : TS} {D : Ends} {σ : L2.St} {H : Hp} (Ok : L2.St → Hp → Prop) (h : ∀ R : L2.St → Hp → Prop, (∀ σ' H', Ok σ' H' → R σ' H') → s { D with nx := R } σ H) (k : ∀ σ' H', Ok σ' H' → rest D σ' H') : tSeq s rest D σ H := h (rest D) k
theorem cut_front {xs : List V} (h : xs ≠ []) : cutV xs none (some (-1)) = xs.take (xs.length - 1) := by
  have e : xs = xs.dropLast ++ [xs.getLast h] := (List.dropLast_concat_getLast h).symm
  rw [← List.dropLast_eq_take]
  conv => lhs; rw [e]
  exact cut_init _ _
theorem atI_back {α : Type} {xs : List α} {j n : Nat} {x : α} (h : xs[j]? = some x) (e : xs.length = j + n) (n1 : 1 ≤ n) : atI xs (-(n : Int)) = some x := by
  unfold atI ixN
  rw [if_neg (by omega), if_pos (by omega)]
  show xs[(-(n : Int) + (xs.length : Int)).toNat]? = _
  rw [show (-(n : Int) + (xs.length : Int)).toNat = j by omega]
  exact h
theorem st_grow22 {H : Hp} {D : Addr} {acc : List V} {o : HO} {v : V} {s : Option Run} (hD : H D = some (.lst acc)) (h : StV H v s) : StV (upd H D o) v s := by
  cases s with
  | none => exact h
  | some r =>
    obtain ⟨t, e, h⟩ := h
    exact ⟨t, e, by rw [upd_ne (ne_of h hD (by intro y; cases y))]; exact h⟩
theorem crs_take (rs : List Run) (s : Option Run) (t : Nat) : (courseR rs s t).take t = (List.range t).map (itS rs s) := by
  unfold courseR
  rw [← List.map_take, List.range_succ, List.take_left' (by rw [List.length_range])]
theorem crs_snoc (rs : List Run) (s : Option Run) (t : Nat) : courseR rs s (t + 1) = courseR rs s t ++ [stR rs (itS rs s t)] := by
  unfold courseR
  rw [List.range_succ, List.map_append]
  rfl
theorem sts_take {H : Hp} {p : Addr} {xs : List V} {es : List (Option Run)} (h : H p = some (.lst xs)) (hp : Paired (StV H) xs es) {q n : Nat} {H' : Hp} (s : Same H H') {a : Addr} (ha : H' a = some (.lst (xs.take n))) : Sts H' a (es.take n) := by
  refine ⟨_, ha, ?_⟩
  have gen : ∀ (n : Nat) {xs : List V} {es : List (Option Run)}, Paired (StV H) xs es → Paired (StV H') (xs.take n) (es.take n) := by
    intro n
    induction n with
    | zero => intro xs es _; exact .nil
    | succ n ih =>
      intro xs es h
      cases h with
      | nil => exact .nil
      | cons h t => exact .cons (StV.same s h) (ih t)
  exact gen n hp
theorem find_first {f : Nat → Option Run} {x : Option Run} {m : Nat} (h : ∃ j, j < m ∧ f j = x) : ∃ j, j < m ∧ f j = x ∧ ∀ i, i < j → f i ≠ x := by
  obtain ⟨k, _, hk, no⟩ := least_of (p := fun j => j < m ∧ f j = x) h.choose_spec
  exact ⟨k, hk.1, hk.2, fun i hi e => no i hi ⟨by have := hk.1; omega, e⟩⟩
section
variable {P : Program} {w : World} {K : PySem.W.Frag} {mg : Str → Option Value} {base : Heap}
/-! _law_due: slots 0:runs 1:state 2:rounds 3:found 4:growth 5:first -/
abbrev s_law_due : Stmt := topS 48
theorem sc_law_due : FnScope ["runs", "state", "rounds", "found", "growth", "first"] ["runs", "state", "rounds"] (defScope s_law_due) := ⟨rfl, rfl, rfl, by decide +kernel, rfl, by decide +kernel, by decide +kernel⟩
def DueOk (rs : List Run) (st : Option Run) : Prop := ∃ (ks : List Str) (b : Nat), (∀ r ∈ rs, r.1 ∈ ks) ∧ lenR rs ≤ (b : Int) ∧ BoxS ks b st ∧ 1 + ks.length * b ≤ 298
def sp_law_due : Sp := fun vs H Q _ => ∃ (L : Addr) (rs : List Run) (v : V) (st : Option Run) (n : Nat), vs = [.ref L, v, .int (n : Int)] ∧ Runs H L rs ∧ SeqOk rs ∧ lenR rs ≤ 400 ∧ StV H v st ∧ StOk st ∧ n ≤ 1000000000000000000000000000000 ∧ (n ≠ 0 → DueOk rs st) ∧
  ∀ H' v', Same H H' → StV H' v' (itS rs st n) → Q v' H'
theorem ok_law_due (D : Df K mg "_law_due" s_law_due) (T : Tx mg) (G_law_end : Has P w K mg base 2 "_law_end" ["runs", "state"] sp_law_end) : Has P w K mg base 3 "_law_due" ["runs", "state", "rounds"] sp_law_due := by
  refine has_of D sc_law_due (fun _ _ _ _ _ _ us hl => match us, hl with | [_, _, _], _ => rfl) (fun vs H Q E h => ?_) (fun f cdv A outer s₀ H vs Q E hr h => ?_)
  · obtain ⟨_, _, _, _, _, rfl, _⟩ := h
    rfl
  · obtain ⟨L, rs, v, st, n, rfl, hR, ok, l4, hv, so, nb, due, q⟩ := h
    have pos : ∀ r ∈ rs, 1 ≤ r.2 := fun r hr => (ok.2.1 r hr).2.1
    have kso := ok.kinds
    refine ⟨_, (pss_cons (ps_set (i := 3) sc_law_due.nd rfl (by first | exact Or.inl rfl | exact Or.inr rfl) (pe_lst (pa_cons (pv 1) pa_nil)))
    (pss_cons (ps_while PassesOwn.never (PW.pt (pw_and (pt_cmpR op_lt (pe_callB call_len_seq (by rfl) T.n_len (by decide +kernel) (pa_cons (pv 3) pa_nil)) pe_int (nomark _)) (pw_and1 (pt_cmpR (op_notInD (room65 hr)) (pe_ix ix_list (pv 3) (pe_un un_neg pe_int) (fun _ _ => rfl)) (pe_slice sl_list (pv 3) po_none (po_some (pe_un un_neg pe_int))) (by with_unfolding_all rfl)))))
      (pss_one (ps_expr (pe_bm PySem.F.plainAttrs_list PySem.F.slot_list_append PySem.F.type_list_append mt_append (pv 3) (pa_cons (pe_callH G_law_end (hr.mono (by omega)) (by rfl) (pa_cons (pv 0) (pa_cons (pe_ix ix_list (pv 3) (pe_un un_neg pe_int) (fun _ _ => rfl)) pa_nil))) pa_nil)))))
    (pss_cons (ps_if (pt_cmpR op_gt (pe_callB call_len_seq (by rfl) T.n_len (by decide +kernel) (pa_cons (pv 3) pa_nil)) (pv 2) (nomark _)) (pss_one (ps_ret (pe_ix ix_list (pv 3) (pv 2) (fun _ _ => rfl)))) pss_nil)
    (pss_cons (ps_if (pt_cmpR (op_inD (room65 hr)) (pe_ix ix_list (pv 3) (pe_un un_neg pe_int) (fun _ _ => rfl)) (pe_slice sl_list (pv 3) po_none (po_some (pe_un un_neg pe_int))) (by with_unfolding_all rfl)) (pss_cons (ps_set (i := 5) sc_law_due.nd rfl (by first | exact Or.inl rfl | exact Or.inr rfl) (pe_bm PySem.F.plainAttrs_list PySem.F.slot_list_index PySem.F.type_list_index (mt_indexD (room65 hr)) (pv 3) (pa_cons (pe_ix ix_list (pv 3) (pe_un un_neg pe_int) (fun _ _ => rfl)) pa_nil)))
    (pss_one (ps_ret (pe_ix ix_list (pv 3) (pe_op op_add (pv 5) (pe_op op_mod (pe_op op_sub (pv 2) (pv 5)) (pe_op op_sub (pe_op op_sub (pe_callB call_len_seq (by rfl) T.n_len (by decide +kernel) (pa_cons (pv 3) pa_nil)) pe_int) (pv 5)))) (fun _ _ => rfl))))) pss_nil)
    (pss_cons (ps_set (i := 4) sc_law_due.nd rfl (by first | exact Or.inl rfl | exact Or.inr rfl) (pe_op op_sub (pe_ix ix_tup (pe_ix ix_list (pv 3) (pe_un un_neg pe_int) (fun _ _ => rfl)) pe_int (fun _ _ => rfl)) (pe_ix ix_tup (pe_ix ix_list (pv 3) (pe_un un_neg pe_int) (fun _ _ => rfl)) pe_int (fun _ _ => rfl))))
    (pss_one (ps_ret (pe_tup (pa_cons (pe_ix ix_tup (pe_ix ix_list (pv 3) (pe_un un_neg pe_int) (fun _ _ => rfl)) pe_int (fun _ _ => rfl)) (pa_cons (pe_op op_add (pe_ix ix_tup (pe_ix ix_list (pv 3) (pe_un un_neg pe_int) (fun _ _ => rfl)) pe_int (fun _ _ => rfl)) (pe_op op_mulW (pv 4) (pe_op op_sub (pe_op op_add (pv 2) pe_int) (pe_callB call_len_seq (by rfl) T.n_len (by decide +kernel) (pa_cons (pv 3) pa_nil))))) pa_nil)))))))))), ?_⟩
    refine ⟨_, rfl, (by show 1 ≤ sizeLine; decide), fun F nF => ?_⟩
    have sF := same_upd (o := .lst [v]) nF
    have hF : Sts (upd H F (.lst [v])) F (courseR rs st 0) := ⟨_, upd_same, .cons (hv.same sF) .nil⟩
    dsimp only
    refine seq_gen (fun σ' H' => ∃ t : Nat, σ' = [some (.ref L), some v, some (.int (n : Int)), some (.ref F), none, none] ∧ Same H H' ∧ Sts H' F (courseR rs st t) ∧ t ≤ 299 ∧ (∀ i j, j < i → i < t → itS rs st j ≠ itS rs st i) ∧ (t = 299 ∨ ∃ j, j < t ∧ itS rs st j = itS rs st t)) (fun R hR' => ?_) (fun σ' H1 hO => ?_)
    · refine ⟨fun μ σ H' => ∃ t : Nat, σ = [some (.ref L), some v, some (.int (n : Int)), some (.ref F), none, none] ∧ Same H H' ∧ Sts H' F (courseR rs st t) ∧ t + μ = 299 ∧ ∀ i j, j < i → i < t → itS rs st j ≠ itS rs st i, ⟨299, 0, rfl, sF, hF, rfl, fun i j _ h => absurd h (Nat.not_lt_zero _)⟩, ?_⟩
      rintro μ σ H1 ⟨t, rfl, s1, hS, hμ, diff⟩
      obtain ⟨xs, hx, hp⟩ := id hS
      have lx : xs.length = t + 1 := by rw [Paired.len hp, crs_len]
      have okS : ∀ s ∈ courseR rs st t, StOk s := crs_ok kso so
      refine ⟨_, rfl, F, xs, rfl, .inl (.of hx), _, _, rfl, rfl, _, rfl, ?_⟩
      by_cases c : t = 299
      · rw [decide_eq_false (by rw [lx]; omega)]
        exact iteF (iteF (hR' _ _ ⟨t, rfl, s1, hS, by omega, diff, .inl c⟩))
      · rw [decide_eq_true (by rw [lx]; omega)]
        refine iteT ?_
        obtain ⟨y, ey, hy⟩ := Paired.at' hp (crs_at (Nat.le_refl t))
        have eb : atI xs (-1) = some y := atI_back (n := 1) ey lx (by decide)
        refine ⟨_, rfl, _, rfl, F, xs, _, y, rfl, rfl, .of hx, eb, _, rfl, _, rfl, _, rfl, F, xs, rfl, .of hx, fun p np => ?_⟩
        have nxs : xs ≠ [] := fun z => by rw [z] at lx; cases lx
        rw [cut_front nxs, lx, show t + 1 - 1 = t by omega]
        have sp := same_upd (o := .lst (xs.take t)) np
        have hT : Sts (upd H1 p (.lst (xs.take t))) p ((courseR rs st t).take t) := sts_take (q := p) hx hp sp upd_same
        refine ⟨dOt (itS rs st t), ((courseR rs st t).take t).map dOt, dp_o (hy.same sp), dp_stsC hT, shaped_o (itS_ok kso so t), shaped_stsC (fun e he => okS e (List.mem_of_mem_take he)), _, rfl, ?_⟩
        rw [any_st, crs_take]
        by_cases c2 : itS rs st t ∈ (List.range t).map (itS rs st)
        · rw [decide_eq_true c2]
          obtain ⟨j, hj, e⟩ := List.mem_map.mp c2
          exact iteF (hR' _ _ ⟨t, rfl, s1.trans sp, hS.same sp, by omega, diff, .inr ⟨j, List.mem_range.mp hj, e⟩⟩)
        · rw [decide_eq_false c2]
          refine iteT ⟨fun σ' H' => ∃ t' : Nat, σ' = [some (.ref L), some v, some (.int (n : Int)), some (.ref F), none, none] ∧ Same H H' ∧ Sts H' F (courseR rs st t') ∧ t' = t + 1 ∧ ∀ i j, j < i → i < t' → itS rs st j ≠ itS rs st i, fun σ' H' h => ?_, ?_⟩
          · obtain ⟨t', h1, h2, h3, h4, h5⟩ := h
            exact ⟨μ - 1, by omega, t', h1, h2, h3, by omega, h5⟩
          · have hx2 := sp _ _ hx
            refine ⟨_, rfl, .inl ⟨rfl, _, SqL.of hx2⟩, _, rfl, _, rfl, _, rfl, F, xs, _, y, rfl, rfl, .of hx2, eb, L, rs, y, itS rs st t, rfl, hR.same (s1.trans sp), pos, hy.same sp, fun H3 w s3 hw => ?_⟩
            have hx3 := s3 _ _ hx2
            refine ⟨F, _, _, rfl, rfl, hx3, small (by omega), ?_⟩
            refine ⟨t + 1, rfl, same_grow nF ((s1.trans sp).trans s3), ?_, rfl, fun i j hj hi => ?_⟩
            · rw [crs_snoc]
              refine ⟨_, upd_same, Paired.app (Paired.imp (fun _ _ z => st_grow22 hx3 (StV.same (sp.trans s3) z)) hp) (.cons (st_grow22 hx3 hw) .nil)⟩
            · by_cases c3 : i < t
              · exact diff i j hj c3
              · obtain rfl : i = t := by omega
                exact fun e => c2 (List.mem_map.mpr ⟨j, List.mem_range.mpr hj, e⟩)
    obtain ⟨t, rfl, s1, hS, ht, diff, stop⟩ := hO
    obtain ⟨xs, hx, hp⟩ := id hS
    have lx : xs.length = t + 1 := by rw [Paired.len hp, crs_len]
    have okS : ∀ s ∈ courseR rs st t, StOk s := crs_ok kso so
    obtain ⟨y, ey, hy⟩ := Paired.at' hp (crs_at (Nat.le_refl t))
    have eb : atI xs (-1) = some y := atI_back (n := 1) ey lx (by decide)
    have nxs : xs ≠ [] := fun z => by rw [z] at lx; cases lx
    refine seq_gen (fun σ' H' => σ' = [some (.ref L), some v, some (.int (n : Int)), some (.ref F), none, none] ∧ H1 = H' ∧ t < n) (fun R hR' => ?_) (fun σ' H' hO => ?_)
    · refine ⟨_, rfl, F, xs, rfl, .inl (.of hx), _, rfl, _, _, rfl, rfl, _, rfl, ?_⟩
      by_cases c : n ≤ t
      · obtain ⟨z, ez, hz⟩ := Paired.at' hp (crs_at c)
        rw [decide_eq_true (by rw [lx]; omega)]
        exact iteT ⟨_, rfl, _, rfl, F, xs, _, z, rfl, rfl, .of hx, atI_nat ez, q _ _ s1 hz⟩
      · rw [decide_eq_false (by rw [lx]; omega)]
        exact iteF (hR' _ _ ⟨rfl, rfl, by omega⟩)
    obtain ⟨rfl, rfl, tn⟩ := hO
    refine seq_gen (fun σ' H' => σ' = [some (.ref L), some v, some (.int (n : Int)), some (.ref F), none, none] ∧ Same H1 H' ∧ ∀ j, j < t → itS rs st j ≠ itS rs st t) (fun R hR' => ?_) (fun σ' H2 hO => ?_)
    · refine ⟨_, rfl, _, rfl, F, xs, _, y, rfl, rfl, .of hx, eb, _, rfl, _, rfl, _, rfl, F, xs, rfl, .of hx, fun p np => ?_⟩
      rw [cut_front nxs, lx, show t + 1 - 1 = t by omega]
      have sp := same_upd (o := .lst (xs.take t)) np
      have hT : Sts (upd H1 p (.lst (xs.take t))) p ((courseR rs st t).take t) := sts_take (q := p) hx hp sp upd_same
      refine ⟨dOt (itS rs st t), ((courseR rs st t).take t).map dOt, dp_o (hy.same sp), dp_stsC hT, shaped_o (itS_ok kso so t), shaped_stsC (fun e he => okS e (List.mem_of_mem_take he)), _, rfl, ?_⟩
      rw [any_st, crs_take]
      have hx2 := sp _ _ hx
      have hS2 := hS.same sp
      have hy2 := hy.same sp
      by_cases c2 : itS rs st t ∈ (List.range t).map (itS rs st)
      · rw [decide_eq_true c2]
        obtain ⟨j0, hj0, e0⟩ := List.mem_map.mp c2
        obtain ⟨j, hj, ej, fj⟩ := find_first ⟨j0, List.mem_range.mp hj0, e0⟩
        have atj : ((courseR rs st t).map dOt)[j]? = some (dOt (itS rs st j)) := by rw [List.getElem?_map, crs_at (by omega)]; rfl
        refine iteT ⟨_, rfl, .inl ⟨rfl, _, SqL.of hx2⟩, _, rfl, _, rfl, F, xs, _, y, rfl, rfl, .of hx2, eb, F, y, dOt (itS rs st t), (courseR rs st t).map dOt, j, _, rfl, rfl, dp_stsC hS2, dp_o hy2, shaped_stsC okS, shaped_o (itS_ok kso so t), atj, by rw [eqv_o, decide_eq_true ej], fun i' z' hi' hz' => ?_, ?_⟩
        · rw [List.getElem?_map, crs_at (by omega)] at hz'
          cases hz'
          rw [eqv_o]
          exact decide_eq_false (fj i' hi')
        · have ix : j + (n - j) % (t - j) ≤ t := by
            have := Nat.mod_lt (n - j) (show 0 < t - j by omega)
            omega
          obtain ⟨z, ez, hz⟩ := Paired.at' hp (crs_at ix)
          have eix : ((j : Nat) : Int) + (((n : Nat) : Int) - ((j : Nat) : Int)) % (((xs.length : Nat) : Int) - 1 - ((j : Nat) : Int)) = ((j + (n - j) % (t - j) : Nat) : Int) := by
            rw [lx, show ((n : Nat) : Int) - ((j : Nat) : Int) = ((n - j : Nat) : Int) by omega, show (((t + 1 : Nat) : Nat) : Int) - 1 - ((j : Nat) : Int) = ((t - j : Nat) : Int) by omega, ← Int.natCast_emod]
            omega
          refine ⟨_, rfl, _, rfl, _, rfl, _, rfl, _, _, rfl, rfl, _, rfl, F, xs, rfl, .inl (.of hx2), _, _, rfl, rfl, _, rfl, _, _, rfl, rfl, _, _, rfl, rfl, (by show (0 : Int) < ((xs.length : Nat) : Int) - 1 - ((j : Nat) : Int); omega), _, _, rfl, rfl, F, xs, _, z, rfl, rfl, .of hx2, ?_, ?_⟩
          · show atI xs (((j : Nat) : Int) + (((n : Nat) : Int) - ((j : Nat) : Int)) % (((xs.length : Nat) : Int) - 1 - ((j : Nat) : Int))) = some z
            rw [eix]
            exact atI_nat ez
          · have hz := hz.same sp
            rw [← due_again hj ej (show j ≤ n by omega)] at hz
            exact q _ _ (s1.trans sp) hz
      · rw [decide_eq_false c2]
        exact iteF (hR' _ _ ⟨rfl, sp, fun j hj e => c2 (List.mem_map.mpr ⟨j, List.mem_range.mpr hj, e⟩)⟩)
    obtain ⟨rfl, s2, no⟩ := hO
    have t299 : t = 299 := by
      rcases stop with c | ⟨j, hj, e⟩
      · exact c
      · exact absurd e (no j hj)
    subst t299
    obtain ⟨ks, b, hk, lb, bx, few⟩ := due (by omega)
    obtain ⟨k, m, g, g1, gl, e298, e299, all⟩ := due_grow pos hk lb bx few fun i j hj hi => by
      by_cases c : i < 299
      · exact diff i j hj c
      · obtain rfl : i = 299 := by omega
        exact no j hj
    have hx2 := s2 _ _ hx
    rw [e299] at hy
    obtain ⟨ty, rfl, hty⟩ := hy.same s2
    obtain ⟨y2, ey2, hy2⟩ := Paired.at' hp (crs_at (show 298 ≤ 299 by decide))
    have eb2 : atI xs (-2) = some y2 := atI_back (n := 2) ey2 lx (by decide)
    rw [e298] at hy2
    obtain ⟨ty2, rfl, hty2⟩ := hy2.same s2
    refine ⟨_, rfl, _, rfl, F, xs, _, _, rfl, rfl, .of hx2, eb, ty, _, 1, _, rfl, rfl, .of hty, at1, _, rfl, _, rfl, F, xs, _, _, rfl, rfl, .of hx2, eb2, ty2, _, 1, _, rfl, rfl, .of hty2, at1, _, _, rfl, rfl, ?_⟩
    refine ⟨_, rfl, _, rfl, F, xs, _, _, rfl, rfl, .of hx2, eb, ty, _, 0, _, rfl, rfl, .of hty, at0, _, rfl, _, rfl, F, xs, _, _, rfl, rfl, .of hx2, eb, ty, _, 1, _, rfl, rfl, .of hty, at1, _, rfl, _, rfl, _, _, rfl, rfl, _, rfl, F, xs, rfl, .inl (.of hx2), _, _, rfl, rfl, _, _, rfl, rfl, wide_mul (a := 20) (b := 200) ?_ ?_ (by decide) (by decide) (by decide), _, _, rfl, rfl, (by show 2 ≤ sizeLine; decide), fun u nu => ?_⟩
    · show (m + g - m).natAbs < 2 ^ 20
      omega
    · rw [lx]
      exact Nat.lt_of_le_of_lt (show (((n : Nat) : Int) + 1 - ((299 + 1 : Nat) : Int)).natAbs ≤ 10 ^ 40 by omega) (by decide +kernel)
    · refine q _ _ (s1.trans (s2.trans (same_upd nu))) ?_
      rw [all n (by omega)]
      refine ⟨u, rfl, ?_⟩
      rw [upd_same, lx]
      show _ = some (HO.tup [V.str k, V.int (m + g + g * ((n : Int) + 1 - 300))])
      have e1 : m + g - m = g := by omega
      show some (HO.tup [V.str k, V.int (m + g + (m + g - m) * ((n : Int) + 1 - ((299 + 1 : Nat) : Int)))]) = _
      rw [e1]
      rfl
end
end UP

set_option Elab.async false
set_option linter.all false
set_option maxRecDepth 100000
set_option maxHeartbeats 8000000
set_option pp.maxSteps 700
namespace UP
open PySem PySem.Spec PyProof.Rows L2
theorem lenb4 {g : Int} : ∀ t : List Run, (∀ r ∈ t, r.2 ≤ g) → 0 ≤ g → lenR t ≤ (t.length : Int) * g
  | [], _, _ => by show (0 : Int) ≤ ((0 : Nat) : Int) * g; rw [show ((0 : Nat) : Int) * g = 0 from Int.zero_mul g]; exact Int.le_refl _
  | r :: t, h, g0 => by
    have h1 := h r (List.mem_cons_self ..)
    have ih := lenb4 t (fun x hx => h x (List.mem_cons_of_mem _ hx)) g0
    show r.2 + lenR t ≤ ((t.length + 1 : Nat) : Int) * g
    rw [show ((t.length + 1 : Nat) : Int) = (t.length : Int) + 1 by omega, Int.add_mul, Int.one_mul]
    omega
theorem gn_go {i : Nat} {v : V} {σ : L2.St} {H : Hp} {k : L2.St → Hp → Prop} (h : k (σ.set i (some v)) H) : gName i v σ H k := h
theorem p6x : (10 : Int) ^ ((6 : Int).toNat) = 1000000 := by decide +kernel
theorem p30x : (10 : Int) ^ ((30 : Int).toNat) = 1000000000000000000000000000000 := by decide +kernel
theorem wideN {m : Int} (h : m.natAbs ≤ 10 ^ 60) : m.natAbs < 2 ^ 8000 := Nat.lt_of_le_of_lt h (Nat.lt_of_lt_of_le (show 10 ^ 60 < 2 ^ 200 by decide +kernel) (Nat.pow_le_pow_right (by decide) (by decide)))
theorem other_okx {ks : List Str} (h : ∀ s ∈ ks, KindOk s) : ∀ s ∈ ks ++ [("other" : Str)], KindOk s := fun s hs => by
  rcases List.mem_append.mp hs with h1 | h1
  · exact h s h1
  · rw [List.mem_singleton.mp h1]
    decide +kernel
section
variable {P : Program} {w : World} {K : PySem.W.Frag} {mg : Str → Option Value} {base : Heap}
/-! law: slots 0:script 1:reel 2:k 3:names 4:runs 5:size 6:turn 7:kind 8:balance 9:rounds 10:count 11:state 12:found 13:step 14:skipped 15:due 16:run -/
abbrev s_law : Stmt := topS 49
theorem sc_law : FnScope ["script", "reel", "k", "names", "runs", "size", "turn", "kind", "balance", "rounds", "count", "state", "found", "step", "skipped", "due", "run"] ["script"] (defScope s_law) := ⟨rfl, rfl, rfl, by decide +kernel, rfl, by decide +kernel, by decide +kernel⟩
def sp_law (K : PySem.W.Frag) : Sp := fun vs H Q _ => ∃ (a : Addr) (ns : List Int), vs = [.ref a] ∧ SqL K H a (ns.map V.int) ∧ ns.length ≤ 63 ∧ ∀ H', Q (.bl true) H'
theorem fn_law {f : Addr} {fd : FuncData} (F : Fun K "law" "law" s_law f fd) (T : Tx mg)
    (G_law_reel : Has P w K mg base 1 "_law_reel" ["script"] (sp_law_reel K)) (G_law_draw : Has P w K mg base 1 "_law_draw" ["reel", "many"] sp_law_draw)
    (G_law_names : Has P w K mg base 2 "_law_names" ["reel", "many"] sp_law_names) (G_law_state : Has P w K mg base 2 "_law_state" ["reel", "names", "most"] sp_law_state)
    (G_law_runs : Has P w K mg base 2 "_law_runs" ["reel", "names", "many", "longest"] sp_law_runs) (G_law_end : Has P w K mg base 2 "_law_end" ["runs", "state"] sp_law_end)
    (G_law_due : Has P w K mg base 3 "_law_due" ["runs", "state", "rounds"] sp_law_due) (G_after_rounds : HasD P w K mg base 8 "after_rounds" ["sequence", "rounds", "state"] 2 "state" sp_after_rounds) :
    FnC P w K mg base f fd ["script"] (sp_law K) := by
  refine fnC_of F sc_law (fun vs H Q E h => ?_) (fun cdv outer s H vs Q E hr h => ?_)
  · obtain ⟨_, _, rfl, _⟩ := h
    rfl
  · obtain ⟨a, ns, rfl, hS, l63, q⟩ := h
    have hr := Room.deeper (show Room (10 + 1) callerA from ⟨rfl, by decide, by decide⟩) (envOfC "law" (defScope s_law) s.heap.objs.size f cdv)
    refine ⟨_, (pss_cons (ps_set (i := 1) sc_law.nd rfl (by first | exact Or.inl rfl | exact Or.inr rfl) (pe_callH G_law_reel (hr.mono (by omega)) (by rfl) (pa_cons (pv 0) pa_nil)))
    (pss_cons (ps_for PassesOwn.never rfl (pi_range1 (by rfl) T.n_range (pa_cons (pe_op op_add pe_int (pe_callB (call_min2 rfl) (by rfl) T.n_min (by decide +kernel) (pa_cons (pe_callB call_len_seq (by rfl) T.n_len (by decide +kernel) (pa_cons (pv 0) pa_nil)) (pa_cons pe_int pa_nil)))) pa_nil)) (pg_name (i := 2) sc_law.nd rfl (by first | exact Or.inl rfl | exact Or.inr rfl))
      (pss_cons (ps_set (i := 3) sc_law.nd rfl (by first | exact Or.inl rfl | exact Or.inr rfl) (pe_callH G_law_names (hr.mono (by omega)) (by rfl) (pa_cons (pv 1) (pa_cons (pe_op op_add pe_int (pe_callH G_law_draw (hr.mono (by omega)) (by rfl) (pa_cons (pv 1) (pa_cons pe_int pa_nil)))) pa_nil))))
    (pss_cons (ps_set (i := 4) sc_law.nd rfl (by first | exact Or.inl rfl | exact Or.inr rfl) (pe_callH G_law_runs (hr.mono (by omega)) (by rfl) (pa_cons (pv 1) (pa_cons (pv 3) (pa_cons pe_int (pa_cons (pe_ix ix_list (pe_lst (pa_cons pe_int (pa_cons pe_int pa_nil))) (pe_callH G_law_draw (hr.mono (by omega)) (by rfl) (pa_cons (pv 1) (pa_cons pe_int pa_nil))) (fun _ _ => rfl)) pa_nil))))))
    (pss_cons (ps_set (i := 5) sc_law.nd rfl (by first | exact Or.inl rfl | exact Or.inr rfl) (pe_callB (cr_sum rfl) (by rfl) T.n_sum (by decide +kernel) (pa_cons (pe_lc (own := [("run", 16)]) rfl sc_law.nd (pi_list (pv 4)) (blkOk_by (N := ["script", "reel", "k", "names", "runs", "size", "turn", "kind", "balance", "rounds", "count", "state", "found", "step", "skipped", "due", "run"]) (sc := defScope s_law) (by decide +kernel)) (fun _ _ _ _ _ => (pg_name (i := 16) sc_law.nd rfl (by first | exact Or.inl rfl | exact Or.inr rfl))) (fun _ _ _ _ _ => pts_nil) (fun _ _ _ _ _ => (pe_ix (ix_tupK (K := K) rfl) (pv 16) pe_int (fun _ _ => rfl)))) pa_nil)))
    (pss_cons (ps_for PassesOwn.never rfl (pi_range1 (by rfl) T.n_range (pa_cons pe_int pa_nil)) (pg_name (i := 6) sc_law.nd rfl (by first | exact Or.inl rfl | exact Or.inr rfl))
      (pss_cons (ps_set (i := 11) sc_law.nd rfl (by first | exact Or.inl rfl | exact Or.inr rfl) (pe_callH G_law_state (hr.mono (by omega)) (by rfl) (pa_cons (pv 1) (pa_cons (pe_op op_cat (pv 3) (pe_lst (pa_cons pe_str pa_nil))) (pa_cons pe_int pa_nil)))))
    (pss_cons (ps_set (i := 9) sc_law.nd rfl (by first | exact Or.inl rfl | exact Or.inr rfl) (pe_callH G_law_draw (hr.mono (by omega)) (by rfl) (pa_cons (pv 1) (pa_cons (pe_ix ix_list (pe_lst (pa_cons pe_int (pa_cons (pe_op op_pow pe_int pe_int) (pa_cons (pe_op op_sub (pe_op op_pow pe_int pe_int) pe_int) pa_nil)))) (pe_callH G_law_draw (hr.mono (by omega)) (by rfl) (pa_cons (pv 1) (pa_cons pe_int pa_nil))) (fun _ _ => rfl)) pa_nil))))
    (pss_cons (ps_set (i := 12) sc_law.nd rfl (by first | exact Or.inl rfl | exact Or.inr rfl) (pe_callH G_after_rounds.has (hr.mono (by omega)) (by rfl) (pa_cons (pv 4) (pa_cons (pv 9) (pa_cons (pv 11) pa_nil)))))
    (pss_cons (ps_if (pt_cmpR (op_neD hr.units) (pv 12) (pe_callH G_law_due (hr.mono (by omega)) (by rfl) (pa_cons (pv 4) (pa_cons (pv 11) (pa_cons (pv 9) pa_nil)))) (nomark _)) (pss_one (ps_ret pe_bl)) pss_nil)
    (pss_cons (ps_for PassesOwn.never rfl (pi_range1 (by rfl) T.n_range (pa_cons pe_int pa_nil)) (pg_name (i := 13) sc_law.nd rfl (by first | exact Or.inl rfl | exact Or.inr rfl))
      (pss_one (ps_set (i := 12) sc_law.nd rfl (by first | exact Or.inl rfl | exact Or.inr rfl) (pe_callH G_law_end (hr.mono (by omega)) (by rfl) (pa_cons (pv 4) (pa_cons (pv 12) pa_nil))))))
    (pss_one (ps_if (pt_cmpR (op_neD hr.units) (pe_callH G_after_rounds.has (hr.mono (by omega)) (by rfl) (pa_cons (pv 4) (pa_cons (pe_op op_add (pv 9) pe_int) (pa_cons (pv 11) pa_nil)))) (pv 12) (nomark _)) (pss_one (ps_ret pe_bl)) pss_nil))))))))
    (pss_cons (ps_set (i := 7) sc_law.nd rfl (by first | exact Or.inl rfl | exact Or.inr rfl) (pe_ix ix_list (pe_op op_cat (pv 3) (pe_lst (pa_cons pe_str pa_nil))) (pe_callH G_law_draw (hr.mono (by omega)) (by rfl) (pa_cons (pv 1) (pa_cons (pe_op op_add (pe_callB call_len_seq (by rfl) T.n_len (by decide +kernel) (pa_cons (pv 3) pa_nil)) pe_int) pa_nil))) (fun _ _ => rfl)))
    (pss_cons (ps_set (i := 8) sc_law.nd rfl (by first | exact Or.inl rfl | exact Or.inr rfl) (pe_op op_sub (pe_op op_mulW pe_int (pe_callB (cr_sum rfl) (by rfl) T.n_sum (by decide +kernel) (pa_cons (pe_lc (own := [("run", 16)]) rfl sc_law.nd (pi_list (pv 4)) (blkOk_by (N := ["script", "reel", "k", "names", "runs", "size", "turn", "kind", "balance", "rounds", "count", "state", "found", "step", "skipped", "due", "run"]) (sc := defScope s_law) (by decide +kernel)) (fun _ _ _ _ _ => (pg_name (i := 16) sc_law.nd rfl (by first | exact Or.inl rfl | exact Or.inr rfl))) (fun _ _ _ _ _ => pts_one (pt_cmpR op_eq (pe_ix (ix_tupK (K := K) rfl) (pv 16) pe_int (fun _ _ => rfl)) (pv 7) (nomark _))) (fun _ _ _ _ _ => (pe_ix (ix_tupK (K := K) rfl) (pv 16) pe_int (fun _ _ => rfl)))) pa_nil))) (pv 5)))
    (pss_cons (ps_set (i := 9) sc_law.nd rfl (by first | exact Or.inl rfl | exact Or.inr rfl) (pe_callH G_law_draw (hr.mono (by omega)) (by rfl) (pa_cons (pv 1) (pa_cons (pe_op op_pow pe_int pe_int) pa_nil))))
    (pss_cons (ps_set (i := 10) sc_law.nd rfl (by first | exact Or.inl rfl | exact Or.inr rfl) (pe_op op_add (pe_op op_add (pe_op op_add (pv 5) pe_int) (pe_op op_mulW (pv 9) (pv 5))) (pe_callH G_law_draw (hr.mono (by omega)) (by rfl) (pa_cons (pv 1) (pa_cons (pe_op op_pow pe_int pe_int) pa_nil)))))
    (pss_cons (ps_if (pt_cmpR (op_neD hr.units) (pe_callH G_after_rounds.has (hr.mono (by omega)) (by rfl) (pa_cons (pv 4) (pa_cons (pv 9) (pa_cons (pe_tup (pa_cons (pv 7) (pa_cons (pv 10) pa_nil))) pa_nil)))) (pe_tup (pa_cons (pv 7) (pa_cons (pe_op op_add (pv 10) (pe_op op_mulW (pv 8) (pv 9))) pa_nil))) (nomark _)) (pss_one (ps_ret pe_bl)) pss_nil)
    (pss_one (ps_if (pt_cmpR op_lt (pv 8) pe_int (nomark _)) (pss_cons (ps_set (i := 10) sc_law.nd rfl (by first | exact Or.inl rfl | exact Or.inr rfl) (pe_op op_add (pe_op op_add (pv 5) pe_int) (pe_callH G_law_draw (hr.mono (by omega)) (by rfl) (pa_cons (pv 1) (pa_cons (pe_op op_pow pe_int pe_int) pa_nil)))))
    (pss_cons (ps_set (i := 14) sc_law.nd rfl (by first | exact Or.inl rfl | exact Or.inr rfl) (pe_callB (call_min2 rfl) (by rfl) T.n_min (by decide +kernel) (pa_cons (pv 9) (pa_cons (pe_op op_fdivW (pe_op op_sub (pe_op op_sub (pv 10) (pv 5)) pe_int) (pe_op op_sub pe_int (pv 8))) pa_nil))))
    (pss_cons (ps_set (i := 15) sc_law.nd rfl (by first | exact Or.inl rfl | exact Or.inr rfl) (pe_callH G_law_due (hr.mono (by omega)) (by rfl) (pa_cons (pv 4) (pa_cons (pe_tup (pa_cons (pv 7) (pa_cons (pe_op op_add (pv 10) (pe_op op_mulW (pv 8) (pv 14))) pa_nil))) (pa_cons (pe_op op_sub (pv 9) (pv 14)) pa_nil)))))
    (pss_one (ps_if (pt_cmpR (op_neD hr.units) (pe_callH G_after_rounds.has (hr.mono (by omega)) (by rfl) (pa_cons (pv 4) (pa_cons (pv 9) (pa_cons (pe_tup (pa_cons (pv 7) (pa_cons (pv 10) pa_nil))) pa_nil)))) (pv 15) (nomark _)) (pss_one (ps_ret pe_bl)) pss_nil))))) pss_nil))))))))))))
    (pss_one (ps_ret (pe_cmpR (op_eqD hr.units) (pe_callH G_after_rounds.has (hr.mono (by omega)) (by rfl) (pa_cons (pe_lst pa_nil) (pa_cons (pe_op op_pow pe_int pe_int) (pa_cons (pe_tup (pa_cons pe_str (pa_cons pe_int pa_nil))) pa_nil)))) (pe_tup (pa_cons pe_str (pa_cons pe_int pa_nil))) (nomark _)))))), ?_⟩
    refine ⟨_, rfl, a, ns, rfl, hS, fun H1 p s1 np z1 => ?_⟩
    refine ⟨_, rfl, a, _, rfl, .inl (s1.seq hS), _, _, rfl, _, _, rfl, rfl, _, rfl, ?_, ?_, for_range (lo := 0) (n := _) (fun i σ H' => ∃ y2 y3 y4 y5 y6 y7 y8 y9 y10 y11 y12 y13 y14 y15, σ = [some (.ref a), some (.ref p), y2, y3, y4, y5, y6, y7, y8, y9, y10, y11, y12, y13, y14, y15, none] ∧ Reel H' p)
      ⟨_, _, _, _, _, _, _, _, _, _, _, _, _, _, rfl, z1⟩ (fun i σ H2 hi hP => ?_) (fun σ H2 hP => ?_)⟩
    · rw [List.length_map]
      split <;> omega
    · rw [List.length_map]
      split <;> omega
    · obtain ⟨y2, y3, y4, y5, y6, y7, y8, y9, y10, y11, y12, y13, y14, y15, rfl, z2⟩ := hP
      clear z1
      -- names
      refine ⟨_, rfl, _, rfl, p, 4, rfl, z2, by decide, by decide, fun H3 r b3 z3 r0 r1 => ⟨_, _, rfl, rfl, p, _, rfl, z3, (by show 0 ≤ 2 + r; omega), (by show 2 + r ≤ 13; omega), fun H4 l ks b4 z4 nl hl ol lk okk _ => ?_⟩⟩
      have lk1 : 2 ≤ ks.length ∧ ks.length ≤ 5 := by
        have lk : ((ks.length : Nat) : Int) = 2 + r := lk
        omega
      clear b3 z3 b4 z2 lk ol nl
      -- runs
      refine ⟨_, rfl, _, rfl, (by show 2 ≤ sizeLine; decide), fun l2 nl2 => ⟨_, rfl, p, 2, rfl, z4.same (same_upd nl2), by decide, by decide, fun H5 r5 b5 z5 r50 r51 => ?_⟩⟩
      have hl2 := b5.but _ _ (z4.ne nl2) upd_same
      have hl := b5.strs (z4.same (same_upd nl2)) (same_upd nl2 _ _ hl)
      obtain ⟨g, hg, g1, g2⟩ : ∃ g, atI [V.int 1, .int 3] r5 = some (.int g) ∧ 1 ≤ g ∧ g ≤ 3 := by
        rcases (show r5 = 0 ∨ r5 = 1 by omega) with e | e
        · rw [e]; exact ⟨_, rfl, by decide, by decide⟩
        · rw [e]; exact ⟨_, rfl, by decide, by decide⟩
      refine ⟨l2, _, r5, _, rfl, rfl, .of hl2, hg, p, l, ks, 8, g, rfl, z5, hl, by omega, by omega, okk, by decide, by decide, g1, by omega, fun H6 L rs b6 z6 o6 nL hR ok lm lg kin => ?_⟩
      have hl := b6.strs z5 hl
      have lR : lenR rs ≤ 24 := by
        have h1 := lenb4 rs (fun r hr => Int.le_trans (lg r hr) g2) (by decide)
        omega
      have pos : ∀ r ∈ rs, 1 ≤ r.2 := fun r hr => (ok.2.1 r hr).2.1
      have l0 := len_nonneg pos
      clear b5 b6 hl2 hg z4 z5 nl2 nL
      obtain ⟨xs, hx, hp⟩ := id hR
      have lx : xs.length = rs.length := Paired.len hp
      have lx8 : rs.length ≤ 8 := by omega
      -- size
      refine ⟨_, rfl, L, rfl, ⟨xs, .of hx⟩, fun L1 nL1 => lc_list (K := K) (a := L) (xs := xs) (fun i H' => Same H6 H' ∧ H' L1 = some (.lst (((rs.map (·.2)).take i).map V.int))) ⟨same_upd nL1, upd_same⟩ (fun i H' _ p => .of (p.1 _ _ hx)) (fun i x H3 ex p => ?_) (fun H3 p => ?_)⟩
      · obtain ⟨sm, hL⟩ := p
        obtain ⟨r, er, hr1⟩ := Paired.at hp ex
        have hi : i < xs.length := (List.getElem?_eq_some_iff.mp ex).1
        obtain ⟨t1, rfl, ht1⟩ := RunV.same sm hr1
        refine ⟨rfl, yesT ⟨_, rfl, t1, _, 1, _, rfl, rfl, .of ht1, at1, _, hL, ?_, same_grow nL1 sm, ?_⟩⟩
        · simp only [List.length_map, List.length_take]
          exact small (by omega)
        · rw [upd_same, take_snoc (x := r.2) (by rw [List.getElem?_map, er]; rfl), List.map_append]
          rfl
      obtain ⟨sm, hL⟩ := p
      rw [List.take_of_length_le (by rw [List.length_map]; omega)] at hL
      refine ⟨L1, (rs.map (fun r : Run => r.2)), rfl, .of hL, ?_⟩
      have z7 := z6.same sm
      have hl7 := sm _ _ hl
      have hR7 := hR.same sm
      clear hL hx hp xs lx lx8 z6 hR hl o6 sm
      refine gn_go ?_
      dsimp only
      -- the turns
      refine seq_gen (fun σ' H' => ∃ y6 y9 y11 y12 y13, σ' = [some (.ref a), some (.ref p), some (.int (0 + (i : Int))), some (.ref l), some (.ref L), some (.int (lenR rs)), y6, y7, y8, y9, y10, y11, y12, y13, y14, y15, none] ∧ Reel H' p ∧ H' l = some (.lst (ks.map V.str)) ∧ Runs H' L rs) (fun R hR' => ?_) (fun σ' H8 hO => ?_)
      · refine ⟨4, rfl, by decide, by decide, for_range (lo := 0) (n := (4 : Int).toNat) (fun j σ H' => ∃ y6 y9 y11 y12 y13, σ = [some (.ref a), some (.ref p), some (.int (0 + (i : Int))), some (.ref l), some (.ref L), some (.int (lenR rs)), y6, y7, y8, y9, y10, y11, y12, y13, y14, y15, none] ∧ Reel H' p ∧ H' l = some (.lst (ks.map V.str)) ∧ Runs H' L rs)
          ⟨_, _, _, _, _, rfl, z7, hl7, hR7⟩ (fun j σ H8 hj hP => ?_) (fun σ H8 hP => hR' _ _ hP)⟩
        clear z7 hl7 hR7
        obtain ⟨y6', y9', y11', y12', y13', rfl, z8, hl8, hR8⟩ := hP
        have lsz : (ks.map V.str).length + 1 ≤ sizeLine := by
          rw [List.length_map]
          exact Nat.le_of_lt (small (by omega))
        refine ⟨_, rfl, _, rfl, (by show 1 ≤ sizeLine; decide), fun o no => ⟨l, o, _, _, rfl, rfl, same_upd no _ _ hl8, upd_same, lsz, fun c nc => ?_⟩⟩
        have sx := (same_upd (o := .lst [V.str "other"]) no).trans (same_upd (o := .lst (ks.map V.str ++ [.str "other"])) nc)
        have hc : (upd (upd H8 o (.lst [V.str "other"])) c (.lst (ks.map V.str ++ [.str "other"]))) c = some (.lst ((ks ++ [("other" : Str)]).map V.str)) := by
          rw [upd_same, List.map_append]
          rfl
        have lo : 0 < (ks ++ [("other" : Str)]).length ∧ (ks ++ [("other" : Str)]).length ≤ 1000 := by
          rw [List.length_append]
          show 0 < ks.length + 1 ∧ ks.length + 1 ≤ 1000
          omega
        have z8 := z8.same sx
        have hl8 := sx _ _ hl8
        have hR8 := hR8.same sx
        generalize upd (upd H8 o (.lst [V.str "other"])) c (.lst (ks.map V.str ++ [.str "other"])) = H8' at *
        refine ⟨p, c, _, 30, rfl, z8, hc, lo.1, lo.2, other_okx okk, by decide, (Nat.lt_of_lt_of_le (show (30 : Int).natAbs < 2 ^ 256 by decide) (Nat.pow_le_pow_right (by decide) (by decide))), fun H9 v st b9 z9 hv so sm => ?_⟩
        have hl9 := b9.strs z8 hl8
        have hR9 := b9.runs z8 hR8
        clear hc lo sx lsz
        dsimp only
        -- rounds
        refine ⟨_, rfl, _, _, rfl, rfl, ⟨by decide, by decide, by decide⟩, _, _, rfl, rfl, ⟨by decide, by decide, by decide⟩, _, _, rfl, rfl, (by show 3 ≤ sizeLine; decide), fun m nm => ?_⟩
        have hm := upd_same (H := H9) (a := m) (o := .lst [.int 40, .int ((10 : Int) ^ ((6 : Int).toNat)), .int ((10 : Int) ^ ((30 : Int).toNat) - 30)])
        have smm := same_upd (o := .lst [.int 40, .int ((10 : Int) ^ ((6 : Int).toNat)), .int ((10 : Int) ^ ((30 : Int).toNat) - 30)]) nm
        have z10 := z9.same smm
        have hl10 := smm _ _ hl9
        have hR10 := hR9.same smm
        have hv10 := hv.same smm
        have mp := z9.ne nm
        generalize upd H9 m (.lst [.int 40, .int ((10 : Int) ^ ((6 : Int).toNat)), .int ((10 : Int) ^ ((30 : Int).toNat) - 30)]) = H10 at *
        refine ⟨_, rfl, p, 3, rfl, z10, by decide, by decide, fun H11 r b11 z11 r0 r1 => ?_⟩
        have hm11 := b11.but _ _ mp hm
        obtain ⟨G, hG, G1, G2⟩ : ∃ G, atI [V.int 40, .int ((10 : Int) ^ ((6 : Int).toNat)), .int ((10 : Int) ^ ((30 : Int).toNat) - 30)] r = some (.int G) ∧ 1 ≤ G ∧ G ≤ 1000000000000000000000000000000 - 30 := by
          rw [p6x, p30x]
          rcases (show r = 0 ∨ r = 1 ∨ r = 2 by omega) with e | e | e <;> subst e
          · exact ⟨_, rfl, by decide, by decide⟩
          · exact ⟨_, rfl, by decide, by decide⟩
          · exact ⟨_, rfl, by decide, by decide⟩
        refine ⟨m, _, r, _, rfl, rfl, .of hm11, hG, p, G, rfl, z11, G1, wideN (by omega), fun H12 n0 b12 z12 n00 n01 => ?_⟩
        obtain ⟨n, rfl⟩ := Int.eq_ofNat_of_zero_le n00
        have hl12 := b12.strs z11 (b11.strs z10 hl10)
        have hR12 := b12.runs z11 (b11.runs z10 hR10)
        have hv12 := b12.st z11 (b11.st z10 hv10)
        clear b9 b11 b12 z8 z9 z10 z11 hl8 hl9 hl10 hR8 hR9 hR10 hv hv10 hm hm11 mp nm smm
        dsimp only
        refine ⟨_, rfl, _, rfl, _, rfl, .ref L, v, rs, st, (n : Int), rfl, hR12.dress, ok, by omega, by omega, by omega, hv12.dress, so, fun H13 w1 s13 hw => ?_⟩
        rw [Int.toNat_natCast] at hw
        have kso := ok.kinds
        have due : DueOk rs st := by
          cases st with
          | none => exact ⟨ks, 30, kin, by omega, (fun r e => by cases e), by omega⟩
          | some r =>
            refine ⟨ks ++ [r.1], 30, fun x hx => List.mem_append_left _ (kin x hx), by omega, fun q e => ?_, by rw [List.length_append]; show 1 + (ks.length + 1) * 30 ≤ 298; omega⟩
            cases e
            exact ⟨List.mem_append_right _ (List.mem_singleton.mpr rfl), (so r rfl).2, sm r rfl⟩
        have hR13 := hR12.same s13
        have hv13 := hv12.same s13
        dsimp only
        refine ⟨_, rfl, _, rfl, _, rfl, _, rfl, L, rs, v, st, n, rfl, hR13, ok, by omega, hv13, so, by omega, fun _ => due, fun H14 w2 s14 hw2 => ⟨dOt (itS rs st n), dOt (itS rs st n), dp_o (hw.same s14), dp_o hw2, shaped_o (itS_ok kso so n), shaped_o (itS_ok kso so n), _, rfl, iteN (by rw [eqv_o, decide_eq_true rfl]; rfl) ?_⟩⟩
        unfold tNext
        dsimp only
        have s124 := s13.trans s14
        have hw14 := hw.same s14
        refine seq_gen (fun σ' H' => ∃ w' y13, σ' = [some (.ref a), some (.ref p), some (.int (0 + (i : Int))), some (.ref l), some (.ref L), some (.int (lenR rs)), some (.int (0 + (j : Int))), y7, y8, some (.int (n : Int)), y10, some v, some w', y13, y14, y15, none] ∧ Same H12 H' ∧ StV H' w' (itS rs st (n + 30))) (fun R hR'' => ?_) (fun σ' H15 hO => ?_)
        · refine ⟨30, rfl, by decide, by decide, for_range (lo := 0) (n := (30 : Int).toNat) (fun u σ H' => ∃ w' y13, σ = [some (.ref a), some (.ref p), some (.int (0 + (i : Int))), some (.ref l), some (.ref L), some (.int (lenR rs)), some (.int (0 + (j : Int))), y7, y8, some (.int (n : Int)), y10, some v, some w', y13, y14, y15, none] ∧ Same H12 H' ∧ StV H' w' (itS rs st (n + u))) ⟨_, _, rfl, s124, hw14⟩ (fun u σ H15 hu hP => ?_) (fun σ H15 hP => hR'' _ _ hP)⟩
          obtain ⟨w', y13, rfl, s15, hw'⟩ := hP
          refine ⟨_, rfl, _, rfl, L, rs, w', _, rfl, hR12.same s15, pos, hw', fun H16 w3 s16 hw3 => ⟨w3, _, rfl, s15.trans s16, hw3⟩⟩
        obtain ⟨w', y13, rfl, s15, hw'⟩ := hO
        refine ⟨_, rfl, _, rfl, _, _, rfl, rfl, _, rfl, .ref L, v, rs, st, (n : Int) + 30, rfl, (hR12.same s15).dress, ok, by omega, by omega, by omega, (hv12.same s15).dress, so, fun H16 w3 s16 hw3 => ?_⟩
        rw [show ((n : Int) + 30).toNat = n + 30 by omega] at hw3
        have s126 := s15.trans s16
        refine ⟨_, rfl, dOt (itS rs st (n + 30)), dOt (itS rs st (n + 30)), dp_o hw3, dp_o (hw'.same s16), shaped_o (itS_ok kso so _), shaped_o (itS_ok kso so _), _, rfl, iteN (by rw [eqv_o, decide_eq_true rfl]; rfl) ?_⟩
        exact ⟨_, _, _, _, _, rfl, z12.same s126, s126 _ _ hl12, hR12.same s126⟩
      clear z7 hl7 hR7
      obtain ⟨y6', y9', y11', y12', y13', rfl, z8, hl8, hR8⟩ := hO
      have lsz : (ks.map V.str).length + 1 ≤ sizeLine := by
        rw [List.length_map]
        exact Nat.le_of_lt (small (by omega))
      -- kind
      refine ⟨_, rfl, (by show 1 ≤ sizeLine; decide), fun o no => ⟨l, o, _, _, rfl, rfl, same_upd no _ _ hl8, upd_same, lsz, fun c nc => ?_⟩⟩
      have sx := (same_upd (o := .lst [V.str "other"]) no).trans (same_upd (o := .lst (ks.map V.str ++ [.str "other"])) nc)
      have hc : (upd (upd H8 o (.lst [V.str "other"])) c (.lst (ks.map V.str ++ [.str "other"]))) c = some (.lst ((ks ++ [("other" : Str)]).map V.str)) := by
        rw [upd_same, List.map_append]
        rfl
      have z8 := z8.same sx
      have hl8 := sx _ _ hl8
      have hR8 := hR8.same sx
      generalize upd (upd H8 o (.lst [V.str "other"])) c (.lst (ks.map V.str ++ [.str "other"])) = H8' at *
      refine ⟨_, rfl, _, rfl, l, _, rfl, .inl (.of hl8), _, _, rfl, rfl, p, _, rfl, z8, by rw [List.length_map]; omega, wideN (by rw [List.length_map]; omega), fun H9 r b9 z9 r0 r1 => ?_⟩
      have hc9 := b9.strs z8 hc
      have hR9 := b9.runs z8 hR8
      rw [List.length_map] at r1
      obtain ⟨kd, ekd, okd⟩ : ∃ kd, atI ((ks ++ [("other" : Str)]).map V.str) r = some (.str kd) ∧ KindOk kd := by
        have lt : r.toNat < (ks ++ [("other" : Str)]).length := by
          rw [List.length_append]
          show r.toNat < ks.length + 1
          omega
        refine ⟨(ks ++ [("other" : Str)])[r.toNat], ?_, other_okx okk _ (List.getElem_mem lt)⟩
        obtain ⟨m, rfl⟩ := Int.eq_ofNat_of_zero_le r0
        refine atI_nat ?_
        rw [List.getElem?_map]
        show Option.map V.str ((ks ++ [("other" : Str)])[m]?) = _
        rw [List.getElem?_eq_getElem (show m < (ks ++ [("other" : Str)]).length from lt)]
        rfl
      refine ⟨c, _, r, _, rfl, rfl, .of hc9, ekd, ?_⟩
      clear hc hc9 sx lsz hl8 b9 z8
      refine gn_go ?_
      dsimp only
      -- balance
      obtain ⟨xs, hx, hp⟩ := id hR9
      have lx : xs.length = rs.length := Paired.len hp
      have lx8 : rs.length ≤ 8 := by omega
      refine ⟨_, rfl, L, rfl, ⟨xs, .of hx⟩, fun L1 nL1 => lc_list (K := K) (a := L) (xs := xs) (fun i H' => Same H9 H' ∧ H' L1 = some (.lst ((((rs.take i).filter fun r => decide (r.1 = kd)).map (fun r : Run => r.2)).map V.int))) ⟨same_upd nL1, upd_same⟩ (fun i H' _ p => .of (p.1 _ _ hx)) (fun i x H3 ex p => ?_) (fun H3 p => ?_)⟩
      · obtain ⟨sm, hL⟩ := p
        obtain ⟨r, er, hr1⟩ := Paired.at hp ex
        have hi : i < xs.length := (List.getElem?_eq_some_iff.mp ex).1
        obtain ⟨t1, rfl, ht1⟩ := RunV.same sm hr1
        have lf := List.length_filter_le (fun r : Run => decide (r.1 = kd)) (rs.take i)
        rw [List.length_take] at lf
        rw [take_snoc er, List.filter_append, List.map_append, List.map_append]
        refine ⟨rfl, _, rfl, t1, _, 0, _, rfl, rfl, .of ht1, at0, _, rfl, rfl, _, rfl, ite2 (fun e => ?_) (fun e => ?_)⟩
        · have e : r.1 = kd := V.str.inj (of_decide_eq_true e)
          refine ⟨_, rfl, t1, _, 1, _, rfl, rfl, .of ht1, at1, _, hL, ?_, same_grow nL1 sm, ?_⟩
          · simp only [List.length_map]
            exact small (by omega)
          · rw [upd_same, List.filter_cons, if_pos (decide_eq_true e)]
            rfl
        · have e : ¬ r.1 = kd := fun z => e (decide_eq_true (by rw [z]))
          refine ⟨sm, ?_⟩
          rw [List.filter_cons, if_neg (by rw [decide_eq_false e]; decide)]
          show _ = some (HO.lst (_ ++ []))
          rw [List.append_nil]
          exact hL
      obtain ⟨sm, hL⟩ := p
      rw [lx, List.take_length] at hL
      have ck0 : 0 ≤ cntK rs kd := cntK_pos pos
      have ck1 : cntK rs kd ≤ lenR rs := cntK_le pos
      refine ⟨L1, _, rfl, .of hL, _, _, rfl, rfl, mul2 (x := cntK rs kd) ck0 (by omega), _, rfl, _, _, rfl, rfl, ?_⟩
      refine gn_go ?_
      have z10 := z9.same sm
      have hR10 := hR9.same sm
      clear hL hx hp xs lx lx8 z9 hR9 sm
      have hfall : fallR rs kd = lenR rs - 2 * cntK rs kd := rfl
      have fl : fallR rs kd ≤ lenR rs := fall_le pos kd
      have kso := ok.kinds
      have big : ∀ {x : Int}, x.natAbs ≤ 10 ^ 50 → x.natAbs < 2 ^ 200 := fun h => Nat.lt_of_le_of_lt h (by decide +kernel)
      have sok : ∀ {x : Int}, 1 ≤ x → StOk (some (kd, x)) := fun h r e => by
        cases e
        exact ⟨okd, h⟩
      dsimp only
      -- rounds
      refine ⟨_, rfl, _, _, rfl, rfl, ⟨by decide, by decide, by decide⟩, p, _, rfl, z10, (by rw [p30x]; decide), wideN (by rw [p30x]; decide +kernel), fun H11 n0 b11 z11 n00 n01 => ?_⟩
      rw [p30x] at n01
      obtain ⟨n, rfl⟩ := Int.eq_ofNat_of_zero_le n00
      have hR11 := b11.runs z10 hR10
      dsimp only
      refine ⟨_, rfl, _, _, rfl, rfl, _, rfl, _, rfl, _, _, rfl, rfl, wide_mul (a := 200) (b := 20) (big (by omega)) (by omega) (by decide) (by decide) (by decide), _, _, rfl, rfl, _, rfl, _, _, rfl, rfl, ⟨by decide, by decide, by decide⟩, p, _, rfl, z11, (by rw [p30x]; decide), wideN (by rw [p30x]; decide +kernel), fun H12 c0 b12 z12 c00 c01 => ⟨_, _, rfl, rfl, ?_⟩⟩
      rw [p30x] at c01
      have hR12 := b12.runs z11 hR11
      have nl : (n : Int) * fallR rs kd ≤ (n : Int) * lenR rs := Int.mul_le_mul_of_nonneg_left fl (by omega)
      have nl0 : 0 ≤ (n : Int) * lenR rs := Int.mul_nonneg (by omega) l0
      have nl2 : (n : Int) * lenR rs ≤ (n : Int) * 24 := Int.mul_le_mul_of_nonneg_left lR (by omega)
      obtain ⟨C, hC⟩ : ∃ C, C = lenR rs + 1 + (n : Int) * lenR rs + c0 := ⟨_, rfl⟩
      refine gn_go ?_
      dsimp only
      rw [← hC]
      have C1 : 1 ≤ C := by omega
      have farC : itS rs (some (kd, C)) n = some (kd, C + (2 * cntK rs kd - lenR rs) * (n : Int)) := by
        rw [← with_pos (k := kd) (show 0 < C by omega), far_it pos n fun i hi => ?_, with_pos (by omega)]
        · congr 2
          rw [hfall, Int.mul_comm, Int.sub_mul, Int.sub_mul]
          omega
        · have h1 : (i : Int) * fallR rs kd ≤ (i : Int) * lenR rs := Int.mul_le_mul_of_nonneg_left fl (by omega)
          have h2 : (i : Int) * lenR rs ≤ (n : Int) * lenR rs := Int.mul_le_mul_of_nonneg_right (by omega) l0
          omega
      have balb : (2 * cntK rs kd - lenR rs).natAbs < 2 ^ 20 := by omega
      refine seq_gen (fun σ' H' => ∃ y10', σ' = [some (.ref a), some (.ref p), some (.int (0 + (i : Int))), some (.ref l), some (.ref L), some (.int (lenR rs)), y6', some (.str kd), some (.int (2 * cntK rs kd - lenR rs)), some (.int (n : Int)), y10', y11', y12', y13', y14, y15, none] ∧ Reel H' p ∧ Runs H' L rs) (fun R hR' => ?_) (fun σ' H13 hO => ?_)
      · refine ⟨_, rfl, _, rfl, _, rfl, _, rfl, (by show 2 ≤ sizeLine; decide), fun t nt => ?_⟩
        have st := same_upd (o := .tup [.str kd, .int C]) nt
        refine ⟨.ref L, .ref t, rs, some (kd, C), (n : Int), rfl, (hR12.same st).dress, ok, by omega, by omega, by omega, StV.dress ⟨t, rfl, upd_same⟩, sok C1, fun H13 w s13 hw => ?_⟩
        rw [Int.toNat_natCast, farC] at hw
        refine ⟨_, rfl, _, rfl, _, rfl, _, rfl, _, _, rfl, rfl, wide_mul (a := 20) (b := 200) balb (big (by omega)) (by decide) (by decide) (by decide), _, _, rfl, rfl, (by show 2 ≤ sizeLine; decide), fun u nu => ?_⟩
        have su := same_upd (o := .tup [.str kd, .int (C + (2 * cntK rs kd - lenR rs) * (n : Int))]) nu
        have ok2 := itS_ok kso (sok C1) n
        rw [farC] at ok2
        refine ⟨dOt (some (kd, C + (2 * cntK rs kd - lenR rs) * (n : Int))), dOt (some (kd, C + (2 * cntK rs kd - lenR rs) * (n : Int))), dp_o (hw.same su), dp_o (st := some (kd, C + (2 * cntK rs kd - lenR rs) * (n : Int))) ⟨u, rfl, upd_same⟩, shaped_o ok2, shaped_o ok2, _, rfl, iteN (by rw [eqv_o, decide_eq_true rfl]; rfl) ?_⟩
        exact hR' _ _ ⟨_, rfl, z12.same (st.trans (s13.trans su)), hR12.same (st.trans (s13.trans su))⟩
      obtain ⟨y10', rfl, z13, hR13⟩ := hO
      clear hR10 hR11 hR12 z10 z11 z12 b11 b12 farC C1 hC nl nl0 nl2
      refine ⟨_, rfl, _, _, rfl, rfl, _, rfl, ite2 (fun cb => ?_) (fun cb => ?_)⟩
      · have cb : 2 * cntK rs kd - lenR rs < 0 := of_decide_eq_true cb
        refine ⟨_, rfl, _, _, rfl, rfl, _, rfl, _, _, rfl, rfl, ⟨by decide, by decide, by decide⟩, p, _, rfl, z13, (by rw [p30x]; decide), wideN (by rw [p30x]; decide +kernel), fun H14 c1 b14 z14 c10 c11 => ⟨_, _, rfl, rfl, ?_⟩⟩
        rw [p30x] at c11
        have hR14 := b14.runs z13 hR13
        refine gn_go ?_
        dsimp only
        refine ⟨_, rfl, _, rfl, _, rfl, _, _, rfl, rfl, _, _, rfl, rfl, _, rfl, _, _, rfl, rfl, _, _, rfl, rfl, ⟨by show 0 < 0 - (2 * cntK rs kd - lenR rs); omega, Nat.lt_of_le_of_lt (Nat.log2_le_self _) (show (0 - (2 * cntK rs kd - lenR rs)).natAbs < 9000 by omega)⟩, _, _, rfl, ?_⟩
        refine gn_go ?_
        dsimp only
        have F0 : 0 < fallR rs kd := by omega
        obtain ⟨sN, es, sn, sc, sl⟩ : ∃ sN : Nat, (if (lenR rs + 1 + c1 - lenR rs - 1) / (0 - (2 * cntK rs kd - lenR rs)) < (n : Int) then (lenR rs + 1 + c1 - lenR rs - 1) / (0 - (2 * cntK rs kd - lenR rs)) else (n : Int)) = (sN : Int) ∧ (sN : Int) ≤ n ∧ (sN : Int) * fallR rs kd ≤ c1 ∧ (sN < n → c1 - (sN : Int) * fallR rs kd < fallR rs kd) := by
          have e0 : lenR rs + 1 + c1 - lenR rs - 1 = c1 := by omega
          have e1 : 0 - (2 * cntK rs kd - lenR rs) = fallR rs kd := by omega
          rw [e0, e1]
          have d0 : 0 ≤ c1 / fallR rs kd := Int.ediv_nonneg c10 (by omega)
          have d1 := Int.mul_ediv_add_emod c1 (fallR rs kd)
          have d2 := Int.emod_nonneg c1 (show fallR rs kd ≠ 0 by omega)
          have d3 := Int.emod_lt_of_pos c1 F0
          by_cases c : c1 / fallR rs kd < (n : Int)
          · rw [if_pos c]
            refine ⟨(c1 / fallR rs kd).toNat, by omega, by omega, ?_, fun _ => ?_⟩
            · rw [show (((c1 / fallR rs kd).toNat : Nat) : Int) = c1 / fallR rs kd by omega, Int.mul_comm]
              omega
            · rw [show (((c1 / fallR rs kd).toNat : Nat) : Int) = c1 / fallR rs kd by omega, Int.mul_comm]
              omega
          · rw [if_neg c]
            refine ⟨n, rfl, Int.le_refl _, ?_, fun h => absurd h (Nat.lt_irrefl _)⟩
            have h1 : (n : Int) * fallR rs kd ≤ c1 / fallR rs kd * fallR rs kd := Int.mul_le_mul_of_nonneg_right (by omega) (by omega)
            rw [Int.mul_comm (c1 / fallR rs kd)] at h1
            omega
        rw [es]
        obtain ⟨m, em⟩ : ∃ m : Nat, n = sN + m := ⟨n - sN, by omega⟩
        -- the state behind the rounds that are skipped
        obtain ⟨X, hX⟩ : ∃ X, X = lenR rs + 1 + c1 + (2 * cntK rs kd - lenR rs) * (sN : Int) := ⟨_, rfl⟩
        have eX : X = lenR rs + 1 + c1 - (sN : Int) * fallR rs kd := by
          rw [hX, hfall, Int.mul_comm, Int.mul_sub, Int.mul_sub]
          omega
        have X1 : 1 ≤ X := by omega
        have C1 : 1 ≤ lenR rs + 1 + c1 := by omega
        have far : itS rs (some (kd, lenR rs + 1 + c1)) n = itS rs (some (kd, X)) m := by
          rw [em, itS_add, ← with_pos (k := kd) (show 0 < lenR rs + 1 + c1 by omega), far_it pos sN fun i hi => ?_, ← eX, with_pos (by omega)]
          have h1 : (i : Int) * fallR rs kd ≤ (sN : Int) * fallR rs kd := Int.mul_le_mul_of_nonneg_right (by omega) (by omega)
          omega
        have due : m ≠ 0 → DueOk rs (some (kd, X)) := fun m0 => by
          have := sl (by omega)
          refine ⟨ks ++ [kd], 48, fun x hx => List.mem_append_left _ (kin x hx), by omega, fun q e => ?_, by rw [List.length_append]; show 1 + (ks.length + 1) * 48 ≤ 298; omega⟩
          cases e
          exact ⟨List.mem_append_right _ (List.mem_singleton.mpr rfl), X1, by show X ≤ 48; omega⟩
        have s20 : ((sN : Nat) : Int).natAbs ≤ 10 ^ 50 := by omega
        refine ⟨_, rfl, _, rfl, _, rfl, _, rfl, _, rfl, _, _, rfl, rfl, wide_mul (a := 20) (b := 200) balb (big s20) (by decide) (by decide) (by decide), _, _, rfl, rfl, (by show 2 ≤ sizeLine; decide), fun t nt => ⟨_, rfl, _, rfl, _, _, rfl, rfl, ?_⟩⟩
        have st := same_upd (o := .tup [.str kd, .int (lenR rs + 1 + c1 + (2 * cntK rs kd - lenR rs) * (sN : Int))]) nt
        refine ⟨L, rs, .ref t, some (kd, X), m, congrArg (fun z => [V.ref L, V.ref t, V.int z]) (show ((n : Nat) : Int) - (sN : Int) = (m : Int) by omega), hR14.same st, ok, by omega, ⟨t, rfl, by rw [hX]; exact upd_same⟩, sok X1, by omega, due, fun H15 w s15 hw => ?_⟩
        refine gn_go ?_
        dsimp only
        have ok2 := itS_ok kso (sok X1) m
        refine ⟨_, rfl, _, rfl, _, rfl, _, rfl, (by show 2 ≤ sizeLine; decide), fun t2 nt2 => ?_⟩
        have st2 := same_upd (o := .tup [.str kd, .int (lenR rs + 1 + c1)]) nt2
        have s16 := st.trans (s15.trans st2)
        refine ⟨.ref L, .ref t2, rs, some (kd, lenR rs + 1 + c1), (n : Int), rfl, (hR14.same s16).dress, ok, by omega, by omega, by omega, StV.dress ⟨t2, rfl, upd_same⟩, sok C1, fun H17 w2 s17 hw2 => ?_⟩
        rw [Int.toNat_natCast, far] at hw2
        refine ⟨_, rfl, dOt (itS rs (some (kd, X)) m), dOt (itS rs (some (kd, X)) m), dp_o hw2, dp_o (hw.same (st2.trans s17)), shaped_o ok2, shaped_o ok2, _, rfl, iteN (by rw [eqv_o, decide_eq_true rfl]; rfl) ?_⟩
        exact ⟨_, _, _, _, _, _, _, _, _, _, _, _, _, _, rfl, z14.same (s16.trans s17)⟩
      · exact ⟨_, _, _, _, _, _, _, _, _, _, _, _, _, _, rfl, z13⟩
    · obtain ⟨y2, y3, y4, y5, y6, y7, y8, y9, y10, y11, y12, y13, y14, y15, rfl, z2⟩ := hP
      refine ⟨Nat.zero_le _, fun e ne => ⟨_, _, rfl, rfl, ⟨by decide, by decide, by decide⟩, (by show 2 ≤ sizeLine; decide), fun t nt => ?_⟩⟩
      have hT : (upd (upd H2 e (.lst [])) t (.tup [.str "a", .int 5])) t = some (.tup [.str "a", .int 5]) := upd_same
      have hE := same_upd (o := .tup [.str "a", .int 5]) nt _ _ (upd_same (H := H2) (a := e) (o := .lst []))
      have soa : StOk (some (("a" : Str), (5 : Int))) := fun r e => by
        cases e
        exact ⟨by decide +kernel, by decide⟩
      refine ⟨.ref e, .ref t, [], some (("a" : Str), (5 : Int)), (10 : Int) ^ ((30 : Int).toNat), rfl, Runs.dress ⟨[], hE, .nil⟩, ⟨by decide, (fun r h => by cases h), (fun i x y h => by simp at h)⟩, by decide, (by rw [p30x]; decide), (by rw [p30x]; decide), StV.dress ⟨t, rfl, hT⟩, soa, fun H3 w s3 hw => ?_⟩
      rw [itS_nil] at hw
      refine ⟨(by show 2 ≤ sizeLine; decide), fun u nu => ?_⟩
      have su := same_upd (o := .tup [.str "a", .int 5]) nu
      refine ⟨dOt (some (("a" : Str), (5 : Int))), dOt (some (("a" : Str), (5 : Int))), dp_o (hw.same su), dp_o (st := some (("a" : Str), (5 : Int))) ⟨u, rfl, upd_same⟩, shaped_o soa, shaped_o soa, ?_⟩
      rw [eqv_o, decide_eq_true rfl]
      exact q _
end
end UP

set_option Elab.async false
set_option linter.all false
set_option maxRecDepth 100000
set_option maxHeartbeats 4000000
namespace UP
open PySem PySem.Spec PyProof.Rows L2
section
variable {K : PySem.W.Frag} {h : Heap} {mg : Str → Option Value}
theorem df_mk {x : Str} {st : Stmt} {f : Addr} {od an : Option Addr} {sl : Array (Option Value)} {oc kV dc pm cd ct : Value} (X : K.In h) (G : h.Ns mainGlobals mg) (a : PySem.W.nsIn K mainGlobals x = some (some (.ref f)))
    (l : K.lookup f = some ⟨oc, od, .func (PySem.W.fnOf x x (defArgs st) (defBody st) (defScope st) .none kV dc pm an cd ct), sl⟩) (c : PySem.W.codeIn K cd x = true) (k : PySem.W.keepIn K (.ref f) = true) : Df K mg x st :=
  ⟨f, _, PySem.W.mg_of X G a, fun_mk l c k⟩
theorem dfd_mk {x : Str} {st : Stmt} {f T : Addr} {od an od2 : Option Addr} {sl sl2 : Array (Option Value)} {n2 : Nat} {oc kV dc pm cd ct oc2 : Value} (X : K.In h) (G : h.Ns mainGlobals mg) (a : PySem.W.nsIn K mainGlobals x = some (some (.ref f)))
    (l : K.lookup f = some ⟨oc, od, .func (PySem.W.fnOf x x (defArgs st) (defBody st) (defScope st) (.ref T) kV dc pm an cd ct), sl⟩) (t : K.lookup T = some ⟨oc2, od2, .seq #[.none] n2, sl2⟩) (c : PySem.W.codeIn K cd x = true) (k : PySem.W.keepIn K (.ref f) = true) : DfD K mg x st [.non] :=
  ⟨f, _, PySem.W.mg_of X G a, ⟨⟨oc, od, _, kV, dc, pm, an, cd, ct, sl, rfl, l, c, .inr ⟨(by intro z; cases z), T, _, [.none], n2, rfl, t, rfl, .cons rfl .nil⟩, .inl rfl⟩, k⟩⟩
theorem cst_mk {x : Str} {i : Int} {t : Tok} (X : K.In h) (G : h.Ns mainGlobals mg) (a : PySem.W.nsIn K mainGlobals x = some (some (.int i t))) : ∃ t, mg x = some (.int i t) := ⟨t, PySem.W.mg_of X G a⟩
end
theorem dfdi_mk {K : PySem.W.Frag} {h : Heap} {mg : Str → Option Value} {i : Int} {tk : Tok} {x : Str} {st : Stmt} {f T : Addr} {od an od2 : Option Addr} {sl sl2 : Array (Option Value)} {n2 : Nat} {oc kV dc pm cd ct oc2 : Value} (X : K.In h) (G : h.Ns mainGlobals mg) (a : PySem.W.nsIn K mainGlobals x = some (some (.ref f)))
    (l : K.lookup f = some ⟨oc, od, .func (PySem.W.fnOf x x (defArgs st) (defBody st) (defScope st) (.ref T) kV dc pm an cd ct), sl⟩) (t : K.lookup T = some ⟨oc2, od2, .seq #[.int i tk] n2, sl2⟩) (c : PySem.W.codeIn K cd x = true) (k : PySem.W.keepIn K (.ref f) = true) : DfD K mg x st [.int i] :=
  ⟨f, _, PySem.W.mg_of X G a, ⟨⟨oc, od, _, kV, dc, pm, an, cd, ct, sl, rfl, l, c, .inr ⟨(by intro z; cases z), T, _, [.int i tk], n2, rfl, t, rfl, .cons ⟨tk, rfl⟩ .nil⟩, .inl rfl⟩, k⟩⟩
/-- all that the top has written -/
structure Top (K : PySem.W.Frag) (mg : Str → Option Value) : Prop where
  T : Tx mg
  d_is_whole : Df K mg "is_whole" s_is_whole
  d_is_within : Df K mg "is_within" s_is_within
  d_is_listed : Df K mg "is_listed" s_is_listed
  d_is_couple : Df K mg "is_couple" s_is_couple
  d_is_kind : Df K mg "is_kind" s_is_kind
  d_is_run : Df K mg "is_run" s_is_run
  d_is_sequence : Df K mg "is_sequence" s_is_sequence
  d_is_state : Df K mg "is_state" s_is_state
  d_checked_runs : Df K mg "checked_runs" s_checked_runs
  d_checked_short_runs : Df K mg "checked_short_runs" s_checked_short_runs
  d_checked_state : Df K mg "checked_state" s_checked_state
  d_length_of : Df K mg "length_of" s_length_of
  d_counts_of : Df K mg "counts_of" s_counts_of
  d_waiting_number : Df K mg "waiting_number" s_waiting_number
  d_state_with : Df K mg "state_with" s_state_with
  d_state_after_run : Df K mg "state_after_run" s_state_after_run
  d_state_after_runs : Df K mg "state_after_runs" s_state_after_runs
  d_growth_in : Df K mg "growth_in" s_growth_in
  d_fall_of : Df K mg "fall_of" s_fall_of
  d_falling_rounds : Df K mg "falling_rounds" s_falling_rounds
  d_fallen : Df K mg "fallen" s_fallen
  d_grows_for_good : Df K mg "grows_for_good" s_grows_for_good
  d_course_of : DfD K mg "course_of" s_course_of [.int 1000000000000000000000000000000]
  d_continued : Df K mg "continued" s_continued
  d_after_rounds : DfD K mg "after_rounds" s_after_rounds [.non]
  d_law_reel : Df K mg "_law_reel" s_law_reel
  d_law_draw : Df K mg "_law_draw" s_law_draw
  d_law_names : Df K mg "_law_names" s_law_names
  d_law_runs : Df K mg "_law_runs" s_law_runs
  d_law_state : Df K mg "_law_state" s_law_state
  d_law_step : Df K mg "_law_step" s_law_step
  d_law_end : Df K mg "_law_end" s_law_end
  d_law_due : Df K mg "_law_due" s_law_due
theorem Top.law {P : Program} {w : World} {K : PySem.W.Frag} {mg : Str → Option Value} (Y : Top K mg) {f : Addr} {fd : FuncData} (F : Fun K "law" "law" s_law f fd) (base : Heap) : FnC P w K mg base f fd ["script"] (sp_law K) := by
  have T := Y.T
  have g_is_whole := ok_is_whole (P := P) (w := w) (base := base) Y.d_is_whole T
  have g_is_within := ok_is_within (P := P) (w := w) (base := base) Y.d_is_within g_is_whole
  have g_is_listed := ok_is_listed (P := P) (w := w) (base := base) Y.d_is_listed T
  have g_is_couple := ok_is_couple (P := P) (w := w) (base := base) Y.d_is_couple T
  have g_is_kind := ok_is_kind (P := P) (w := w) (base := base) Y.d_is_kind T
  have g_is_run := ok_is_run (P := P) (w := w) (base := base) Y.d_is_run T g_is_couple g_is_kind g_is_within
  have g_is_state := ok_is_state (P := P) (w := w) (base := base) Y.d_is_state T g_is_couple g_is_kind g_is_whole
  have g_is_sequence := ok_is_sequence (P := P) (w := w) (base := base) Y.d_is_sequence T g_is_listed g_is_run
  have g_checked_runs := ok_checked_runs (P := P) (w := w) (base := base) Y.d_checked_runs T g_is_sequence
  have g_checked_state := ok_checked_state (P := P) (w := w) (base := base) Y.d_checked_state T g_is_state
  have g_length_of := ok_length_of (P := P) (w := w) (base := base) Y.d_length_of T
  have g_waiting_number := ok_waiting_number (P := P) (w := w) (base := base) Y.d_waiting_number
  have g_state_with := ok_state_with (P := P) (w := w) (base := base) Y.d_state_with
  have g_state_after_run := ok_state_after_run (P := P) (w := w) (base := base) Y.d_state_after_run g_waiting_number g_state_with
  have g_state_after_runs := ok_state_after_runs (P := P) (w := w) (base := base) Y.d_state_after_runs g_state_after_run
  have g_checked_short_runs := ok_checked_short_runs (P := P) (w := w) (base := base) Y.d_checked_short_runs T g_checked_runs g_length_of
  have g_counts_of := ok_counts_of (P := P) (w := w) (base := base) Y.d_counts_of T g_checked_runs
  have g_law_draw := ok_law_draw (P := P) (w := w) (base := base) Y.d_law_draw T
  have g_law_reel := ok_law_reel (P := P) (w := w) (base := base) Y.d_law_reel T
  have g_law_names := ok_law_names (P := P) (w := w) (base := base) Y.d_law_names T g_law_draw
  have g_law_state := ok_law_state (P := P) (w := w) (base := base) Y.d_law_state T g_law_draw
  have g_law_step := ok_law_step (P := P) (w := w) (base := base) Y.d_law_step
  have g_law_runs := ok_law_runs (P := P) (w := w) (base := base) Y.d_law_runs T g_law_draw
  have g_law_end := ok_law_end (P := P) (w := w) (base := base) Y.d_law_end g_law_step
  have g_growth_in := ok_growth_in (P := P) (w := w) (base := base) Y.d_growth_in g_length_of g_counts_of
  have g_fall_of := ok_fall_of (P := P) (w := w) (base := base) Y.d_fall_of T g_length_of
  have g_falling_rounds := ok_falling_rounds (P := P) (w := w) (base := base) Y.d_falling_rounds g_length_of g_fall_of
  have g_fallen := ok_fallen (P := P) (w := w) (base := base) Y.d_fallen g_state_with g_fall_of
  have g_grows_for_good := ok_grows_for_good (P := P) (w := w) (base := base) Y.d_grows_for_good g_length_of
  have g_course_of := ok_course_of (P := P) (w := w) (base := base) Y.d_course_of T g_grows_for_good g_state_after_runs
  have g_continued := ok_continued (P := P) (w := w) (base := base) Y.d_continued T
  have g_after_rounds := ok_after_rounds (P := P) (w := w) (base := base) Y.d_after_rounds T g_checked_short_runs g_is_within g_checked_state g_growth_in g_falling_rounds g_course_of g_fallen g_continued
  have g_law_due := ok_law_due (P := P) (w := w) (base := base) Y.d_law_due T g_law_end
  exact fn_law F T g_law_reel g_law_draw g_law_names g_law_state g_law_runs g_law_end g_law_due g_after_rounds
theorem all_mk {P : Program} {w : World} {K : PySem.W.Frag} {h : Heap} {mg : Str → Option Value} {fa f : Addr} {od an : Option Addr} {sl : Array (Option Value)} {oc kV dc pm cd ct : Value} (X : K.In h) (G : h.Ns mainGlobals mg) (hfa : mg "law" = some (.ref fa)) (a : PySem.W.nsIn K mainGlobals "law" = some (some (.ref f)))
    (l : K.lookup f = some ⟨oc, od, .func (PySem.W.fnOf "law" "law" (defArgs s_law) (defBody s_law) (defScope s_law) .none kV dc pm an cd ct), sl⟩) (c : PySem.W.codeIn K cd "law" = true) (k : PySem.W.keepIn K (.ref f) = true) (Y : Top K mg) :
    ∃ fd : FuncData, (∀ (s : Shared) (v : Value), BindsTo s fd ⟨[v], []⟩ [("script", v)]) ∧ ∀ base : Heap, K.In base → base.Ns mainGlobals mg → FnC P w K mg base fa fd ["script"] (sp_law K) := by
  have e := hfa.symm.trans (PySem.W.mg_of X G a)
  cases e
  exact ⟨_, fun s v => .of_eq rfl, fun base _ _ => Y.law (fun_mk (st := s_law) l c k) base⟩
end UP
open PySem PySem.W PyProof.Rows
set_option maxHeartbeats 0 in
theorem PySem.Challenge.cw_unlikepairs_k22_many_rounds_holds : PySem.Challenge.rw_unlikepairs_k22_many_rounds.Holds := by
  w_on; o_law; k_head; (case hw => w_witness2)
  k_fill
  refine UP.walkC (l := PySem.Challenge.rw_unlikepairs_k22_many_rounds) (n := 63) (x := "script") (sp := fun w => UP.sp_law _) rfl (by decide) rfl (fun w h Y => PySem.W.kIn_of Y) ?F (fun _ _ a ns hl hS => ⟨a, ns, rfl, hS, hl, fun _ => rfl⟩)
  case F =>
    intro w mg fa h KX G hmg
    refine' UP.all_mk KX G hmg ?a ?l ?c ?k ?Y
    (case a => k_is); (case l => k_is); (case c => k_is); (case k => k_is)
    case Y =>
      constructor
      · constructor
        · refine' PySem.W.mg_none_of KX G ?z; (case z => k_is)
        · refine' PySem.W.mg_none_of KX G ?z; (case z => k_is)
        · refine' PySem.W.mg_none_of KX G ?z; (case z => k_is)
        · refine' PySem.W.mg_none_of KX G ?z; (case z => k_is)
        · refine' PySem.W.mg_none_of KX G ?z; (case z => k_is)
        · refine' PySem.W.mg_none_of KX G ?z; (case z => k_is)
        · refine' PySem.W.mg_none_of KX G ?z; (case z => k_is)
        · refine' PySem.W.mg_none_of KX G ?z; (case z => k_is)
        · refine' PySem.W.mg_none_of KX G ?z; (case z => k_is)
        · refine' PySem.W.mg_none_of KX G ?z; (case z => k_is)
        · refine' PySem.W.mg_none_of KX G ?z; (case z => k_is)
        · refine' PySem.W.mg_none_of KX G ?z; (case z => k_is)
        · refine' PySem.W.mg_none_of KX G ?z; (case z => k_is)
        · refine' PySem.W.mg_none_of KX G ?z; (case z => k_is)
        · refine' PySem.W.mg_none_of KX G ?z; (case z => k_is)
        · refine' PySem.W.mg_none_of KX G ?z; (case z => k_is)
        · refine' PySem.W.mg_none_of KX G ?z; (case z => k_is)
        · refine' PySem.W.mg_none_of KX G ?z; (case z => k_is)
        · refine' PySem.W.mg_none_of KX G ?z; (case z => k_is)
        · refine' PySem.W.mg_none_of KX G ?z; (case z => k_is)
        · refine' PySem.W.mg_none_of KX G ?z; (case z => k_is)
        · refine' UP.cst_mk KX G ?z; (case z => k_is)
        · refine' UP.cst_mk KX G ?z; (case z => k_is)
        · refine' UP.cst_mk KX G ?z; (case z => k_is)
        · refine' UP.cst_mk KX G ?z; (case z => k_is)
        · refine' UP.cst_mk KX G ?z; (case z => k_is)
      · refine' UP.df_mk KX G ?a ?l ?c ?k; (case a => k_is); (case l => k_is); (case c => k_is); (case k => k_is)
      · refine' UP.df_mk KX G ?a ?l ?c ?k; (case a => k_is); (case l => k_is); (case c => k_is); (case k => k_is)
      · refine' UP.df_mk KX G ?a ?l ?c ?k; (case a => k_is); (case l => k_is); (case c => k_is); (case k => k_is)
      · refine' UP.df_mk KX G ?a ?l ?c ?k; (case a => k_is); (case l => k_is); (case c => k_is); (case k => k_is)
      · refine' UP.df_mk KX G ?a ?l ?c ?k; (case a => k_is); (case l => k_is); (case c => k_is); (case k => k_is)
      · refine' UP.df_mk KX G ?a ?l ?c ?k; (case a => k_is); (case l => k_is); (case c => k_is); (case k => k_is)
      · refine' UP.df_mk KX G ?a ?l ?c ?k; (case a => k_is); (case l => k_is); (case c => k_is); (case k => k_is)
      · refine' UP.df_mk KX G ?a ?l ?c ?k; (case a => k_is); (case l => k_is); (case c => k_is); (case k => k_is)
      · refine' UP.df_mk KX G ?a ?l ?c ?k; (case a => k_is); (case l => k_is); (case c => k_is); (case k => k_is)
      · refine' UP.df_mk KX G ?a ?l ?c ?k; (case a => k_is); (case l => k_is); (case c => k_is); (case k => k_is)
      · refine' UP.df_mk KX G ?a ?l ?c ?k; (case a => k_is); (case l => k_is); (case c => k_is); (case k => k_is)
      · refine' UP.df_mk KX G ?a ?l ?c ?k; (case a => k_is); (case l => k_is); (case c => k_is); (case k => k_is)
      · refine' UP.df_mk KX G ?a ?l ?c ?k; (case a => k_is); (case l => k_is); (case c => k_is); (case k => k_is)
      · refine' UP.df_mk KX G ?a ?l ?c ?k; (case a => k_is); (case l => k_is); (case c => k_is); (case k => k_is)
      · refine' UP.df_mk KX G ?a ?l ?c ?k; (case a => k_is); (case l => k_is); (case c => k_is); (case k => k_is)
      · refine' UP.df_mk KX G ?a ?l ?c ?k; (case a => k_is); (case l => k_is); (case c => k_is); (case k => k_is)
      · refine' UP.df_mk KX G ?a ?l ?c ?k; (case a => k_is); (case l => k_is); (case c => k_is); (case k => k_is)
      · refine' UP.df_mk KX G ?a ?l ?c ?k; (case a => k_is); (case l => k_is); (case c => k_is); (case k => k_is)
      · refine' UP.df_mk KX G ?a ?l ?c ?k; (case a => k_is); (case l => k_is); (case c => k_is); (case k => k_is)
      · refine' UP.df_mk KX G ?a ?l ?c ?k; (case a => k_is); (case l => k_is); (case c => k_is); (case k => k_is)
      · refine' UP.df_mk KX G ?a ?l ?c ?k; (case a => k_is); (case l => k_is); (case c => k_is); (case k => k_is)
      · refine' UP.df_mk KX G ?a ?l ?c ?k; (case a => k_is); (case l => k_is); (case c => k_is); (case k => k_is)
      · refine' UP.dfdi_mk KX G ?a ?l ?t ?c ?k; (case a => k_is); (case l => k_is); (case t => k_is); (case c => k_is); (case k => k_is)
      · refine' UP.df_mk KX G ?a ?l ?c ?k; (case a => k_is); (case l => k_is); (case c => k_is); (case k => k_is)
      · refine' UP.dfd_mk KX G ?a ?l ?t ?c ?k; (case a => k_is); (case l => k_is); (case t => k_is); (case c => k_is); (case k => k_is)
      · refine' UP.df_mk KX G ?a ?l ?c ?k; (case a => k_is); (case l => k_is); (case c => k_is); (case k => k_is)
      · refine' UP.df_mk KX G ?a ?l ?c ?k; (case a => k_is); (case l => k_is); (case c => k_is); (case k => k_is)
      · refine' UP.df_mk KX G ?a ?l ?c ?k; (case a => k_is); (case l => k_is); (case c => k_is); (case k => k_is)
      · refine' UP.df_mk KX G ?a ?l ?c ?k; (case a => k_is); (case l => k_is); (case c => k_is); (case k => k_is)
      · refine' UP.df_mk KX G ?a ?l ?c ?k; (case a => k_is); (case l => k_is); (case c => k_is); (case k => k_is)
      · refine' UP.df_mk KX G ?a ?l ?c ?k; (case a => k_is); (case l => k_is); (case c => k_is); (case k => k_is)
      · refine' UP.df_mk KX G ?a ?l ?c ?k; (case a => k_is); (case l => k_is); (case c => k_is); (case k => k_is)
      · refine' UP.df_mk KX G ?a ?l ?c ?k; (case a => k_is); (case l => k_is); (case c => k_is); (case k => k_is)
