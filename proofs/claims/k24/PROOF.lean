import PyProof.Rows.All
import Wide.All
import OpenK.AllK
import Wide.FinOn
import HandS.ForMost
import HandS.Wide
import HandS.IsInst
import HandS.Defaults
import HandS.Codes
import HandS.Style
import PyProof.ReprRoads
import PyProof.ReprLen
import HandS.Zip
import HandS.NoneIn
import HandS.TupAny
import HandS.ForExc
import HandS.ExcIs
import HandS.ExcValue
import HandS.DictTup
import HandS.SortRule
import HandS.SortOrd
import HandS.ListItems
import KE.KDictWalk
import KE.KeyNested
import PyProof.DictRoadsH
import HandS.Deep
import PySem.Challenge.RW_unlikepairs_k24_round_errors
set_option Elab.async false
set_option linter.all false
set_option maxRecDepth 100000
set_option maxHeartbeats 4000000
namespace UP
open PySem PySem.Spec PyProof.Rows L2

/-! ### a def that keeps a promise, by its name -/
section
variable (P : Program) (w : World) (K : PySem.W.Frag) (mg : Str → Option Value) (base : Heap)
def Has (k : Nat) (x : Str) (ps : List Str) (sp : Sp) : Prop :=
  ∃ f fd, mg x = some (.ref f) ∧ PySem.W.keepIn K (.ref f) = true ∧ Binds K fd ps [] ∧ FnOk P w K mg base CX0 k f fd ps sp
def Df (x : Str) (st : Stmt) : Prop := ∃ f fd, mg x = some (.ref f) ∧ Fun K x x st f fd
end
theorem Df.of {K : PySem.W.Frag} {mg : Str → Option Value} {x : Str} {st : Stmt} {f : Addr} {fd : FuncData} (g : mg x = some (.ref f)) (F : Fun K x x st f fd) : Df K mg x st := ⟨f, fd, g, F⟩
section
variable {P : Program} {w : World} {K : PySem.W.Frag} {mg : Str → Option Value} {base : Heap}
theorem has_of {x : Str} {st : Stmt} {ps N : List Str} {k : Nat} {sp : Sp} (D : Df K mg x st) (S : FnScope N ps (defScope st))
    (hb : ∀ (kV doc pm : Value) (an : Option Addr) (cdv ct : Value) (us : List Value), us.length = ps.length → bindArgs (PySem.W.fnOf x x (defArgs st) (defBody st) (defScope st) .none kV doc pm an cdv ct) ⟨us, []⟩ = pure (ps.zip us))
    (len : ∀ vs H Q E, sp vs H Q E → vs.length = ps.length)
    (body : ∀ (f : Addr) (cdv : Value) (A : Around) (outer : List Env) (s : Shared) (H : Hp) (vs : List V) (Q : VK) (E : XK), Room k (A.deeper (envOfC x (defScope st) s.heap.objs.size f cdv)) → sp vs H Q E →
      ∃ t, PSs (cxOf CX0 P w K mg base N x (defScope st) f cdv A outer s H E).nox (defBody st) t ∧ t { nx := fun _ H' => Q .non H', rt := Q } (start N vs) H) :
    Has P w K mg base (k + 1) x ps sp := by
  obtain ⟨f, fd, g, F⟩ := D
  exact ⟨f, fd, g, F.kp, F.binds hb, F.ok S len fun cdv A outer s H vs Q E hr h => body f cdv A outer s H vs Q E hr h⟩
theorem Has.weak {x : Str} {ps : List Str} {k : Nat} {sp sp' : Sp} (h : Has P w K mg base k x ps sp) (e : sp = sp') : Has P w K mg base k x ps sp' := e ▸ h
end
section
variable {X : Cx}
theorem pe_callH {k : Nat} {x : Str} {ps : List Str} {sp : Sp} {p pos : Pos} {e : Expr} {es : List Expr} {t : TA} (G : Has X.prog X.w X.K X.mg X.base k x ps sp) (hr : Room k X.A) (hg : Gl X x) (ha : PA X (e :: es) t)
    (hdb : (x == ("__debug__" : Str)) = false := by decide) (he : starEach (e :: es) X.env = (false, eval e X.env) :: starEach es X.env := by rfl) (hpl : (backTo pos (starEach es X.env)).any (·.1) = false := by rfl) :
    PE X (.Call (.Name x p) (e :: es) [] pos) (tCall sp [] E0 t) := by
  obtain ⟨f, fd, g, kp, b, F⟩ := G
  exact pe_call F hr hg g kp b .nil pass0 ha hdb he hpl
theorem pe_glI {x : Str} {i : Int} {pos : Pos} (h : ∃ t, X.mg x = some (.int i t)) (hg : Gl X x) (hd : (x == ("__debug__" : Str)) = false := by decide) : PE X (.Name x pos) (tC (.int i)) := by
  obtain ⟨t, h⟩ := h
  exact pe_glob hg h ⟨t, rfl⟩ hd
end

/-! ### heaps -/
theorem same_upd {H : Hp} {p : Addr} {o : HO} (h : H p = none) : Same H (upd H p o) := fun b x e => by
  rw [upd_ne (ne_of_none e h)]
  exact e
/-- all but the object at sp is as it was -/
def But (sp : Addr) (H H' : Hp) : Prop := ∀ b o, b ≠ sp → H b = some o → H' b = some o
theorem Same.but {sp : Addr} {H H' : Hp} (h : Same H H') : But sp H H' := fun b o _ e => h b o e
theorem But.trans {sp : Addr} {H H1 H2 : Hp} (a : But sp H H1) (b : But sp H1 H2) : But sp H H2 := fun c o n e => b c o n (a c o n e)
theorem But.refl {sp : Addr} {H : Hp} : But sp H H := fun _ _ _ e => e
theorem but_upd {sp : Addr} {H : Hp} {o : HO} : But sp H (upd H sp o) := fun b x n e => by
  rw [upd_ne n]
  exact e
theorem small {n : Nat} (h : n ≤ 1000000) : n < sizeLine := Nat.lt_of_le_of_lt h (by decide)
theorem smallE {n : Nat} (h : n ≤ 1000000) : n ≤ sizeLine := Nat.le_of_lt (small h)

/-! ### runs and states -/
abbrev Run := Str × Int
def RunV (H : Hp) (v : V) (r : Run) : Prop := ∃ t, v = .ref t ∧ H t = some (.tup [.str r.1, .int r.2])
def Runs (H : Hp) (a : Addr) (rs : List Run) : Prop := ∃ xs, H a = some (.lst xs) ∧ Paired (RunV H) xs rs
def StV (H : Hp) (v : V) : Option Run → Prop
  | none => v = .non
  | some r => RunV H v r
theorem RunV.same {H H' : Hp} {v : V} {r : Run} (s : Same H H') (h : RunV H v r) : RunV H' v r := by
  obtain ⟨t, e, h⟩ := h
  exact ⟨t, e, s _ _ h⟩
theorem Paired.len {α β : Type} {F : α → β → Prop} : ∀ {l₁ : List α} {l₂ : List β}, Paired F l₁ l₂ → l₁.length = l₂.length
  | _, _, .nil => rfl
  | _, _, .cons _ t => congrArg Nat.succ (Paired.len t)
theorem Paired.at {α β : Type} {F : α → β → Prop} : ∀ {l₁ : List α} {l₂ : List β} {i : Nat} {x : α}, Paired F l₁ l₂ → l₁[i]? = some x → ∃ y, l₂[i]? = some y ∧ F x y
  | _, _, _, _, .nil, h => by simp at h
  | _, _, 0, _, .cons h _, e => by
    simp only [List.getElem?_cons_zero, Option.some.injEq] at e
    subst e
    exact ⟨_, by simp, h⟩
  | _, _, i + 1, _, .cons _ t, e => by
    simp only [List.getElem?_cons_succ] at e ⊢
    exact Paired.at t e
theorem Paired.at' {α β : Type} {F : α → β → Prop} : ∀ {l₁ : List α} {l₂ : List β} {i : Nat} {y : β}, Paired F l₁ l₂ → l₂[i]? = some y → ∃ x, l₁[i]? = some x ∧ F x y
  | _, _, _, _, .nil, h => by simp at h
  | _, _, 0, _, .cons h _, e => by
    simp only [List.getElem?_cons_zero, Option.some.injEq] at e
    subst e
    exact ⟨_, by simp, h⟩
  | _, _, i + 1, _, .cons _ t, e => by
    simp only [List.getElem?_cons_succ] at e ⊢
    exact Paired.at' t e
theorem Paired.imp {α β : Type} {F G : α → β → Prop} (f : ∀ a b, F a b → G a b) : ∀ {l₁ : List α} {l₂ : List β}, Paired F l₁ l₂ → Paired G l₁ l₂
  | _, _, .nil => .nil
  | _, _, .cons h t => .cons (f _ _ h) (Paired.imp f t)
theorem Paired.app {α β : Type} {F : α → β → Prop} : ∀ {l₁ m₁ : List α} {l₂ m₂ : List β}, Paired F l₁ l₂ → Paired F m₁ m₂ → Paired F (l₁ ++ m₁) (l₂ ++ m₂)
  | _, _, _, _, .nil, h => h
  | _, _, _, _, .cons h t, k => .cons h (Paired.app t k)
theorem Paired.dropp {α β : Type} {F : α → β → Prop} : ∀ {l₁ : List α} {l₂ : List β} (n : Nat), Paired F l₁ l₂ → Paired F (l₁.drop n) (l₂.drop n)
  | _, _, 0, h => h
  | _, _, n + 1, .nil => .nil
  | _, _, n + 1, .cons _ t => by
    simp only [List.drop_succ_cons]
    exact Paired.dropp n t
theorem Paired.takep {α β : Type} {F : α → β → Prop} : ∀ {l₁ : List α} {l₂ : List β} (n : Nat), Paired F l₁ l₂ → Paired F (l₁.take n) (l₂.take n)
  | _, _, 0, h => by simp only [List.take_zero]; exact .nil
  | _, _, n + 1, .nil => .nil
  | _, _, n + 1, .cons h t => by
    simp only [List.take_succ_cons]
    exact .cons h (Paired.takep n t)
theorem Runs.same {H H' : Hp} {a : Addr} {rs : List Run} (s : Same H H') (h : Runs H a rs) : Runs H' a rs := by
  obtain ⟨xs, e, p⟩ := h
  exact ⟨xs, s _ _ e, Paired.imp (fun _ _ => RunV.same s) p⟩
theorem StV.same {H H' : Hp} {v : V} {st : Option Run} (s : Same H H') (h : StV H v st) : StV H' v st := by
  cases st with
  | none => exact h
  | some r => exact RunV.same s h
/-- the spring: a list of three ints -/
def Spr (H : Hp) (sp : Addr) : Prop := ∃ d s c : Int, H sp = some (.lst [.int d, .int s, .int c]) ∧ 0 ≤ d ∧ d.natAbs < 2 ^ 20000 ∧ 0 ≤ s ∧ s < 2305843009213693951
theorem RunV.but {H H' : Hp} {sp : Addr} {v : V} {r : Run} (z : Spr H sp) (s : But sp H H') (h : RunV H v r) : RunV H' v r := by
  obtain ⟨t, e, h⟩ := h
  obtain ⟨_, _, _, hs, _⟩ := z
  exact ⟨t, e, s _ _ (ne_of h hs (by intro q; cases q)) h⟩
theorem Runs.ne {H : Hp} {sp a : Addr} {rs : List Run} (z : Spr H sp) (h : Runs H a rs) : a ≠ sp := by
  obtain ⟨xs, e, p⟩ := h
  obtain ⟨d, s, c, hs, _⟩ := z
  refine ne_of e hs fun q => ?_
  have q := HO.lst.inj q
  subst q
  cases p with
  | cons h _ =>
    obtain ⟨t, e, _⟩ := h
    cases e
theorem Runs.but {H H' : Hp} {sp a : Addr} {rs : List Run} (z : Spr H sp) (s : But sp H H') (h : Runs H a rs) : Runs H' a rs := by
  have n := Runs.ne z h
  obtain ⟨xs, e, p⟩ := h
  exact ⟨xs, s _ _ n e, Paired.imp (fun _ _ => RunV.but z s) p⟩
theorem StV.but {H H' : Hp} {sp : Addr} {v : V} {st : Option Run} (z : Spr H sp) (s : But sp H H') (h : StV H v st) : StV H' v st := by
  cases st with
  | none => exact h
  | some r => exact RunV.but z s h
theorem Spr.same {H H' : Hp} {sp : Addr} (z : Spr H sp) (s : Same H H') : Spr H' sp := by
  obtain ⟨d, e, c, hs, r⟩ := z
  exact ⟨d, e, c, s _ _ hs, r⟩
def KindOk (s : Str) : Prop := 1 ≤ s.length ∧ s.length ≤ 8 ∧ ∀ c ∈ s.cps.toList, 97 ≤ c ∧ c ≤ 122
def RunOk (r : Run) : Prop := KindOk r.1 ∧ 1 ≤ r.2 ∧ r.2 ≤ 1000000000000000000000000000000
def Alt (rs : List Run) : Prop := ∀ (i : Nat) (x y : Run), rs[i]? = some x → rs[i + 1]? = some y → x.1 ≠ y.1
def SeqOk (rs : List Run) : Prop := rs.length ≤ 400 ∧ (∀ r ∈ rs, RunOk r) ∧ Alt rs
end UP

set_option Elab.async false
set_option linter.all false
set_option maxRecDepth 100000
set_option maxHeartbeats 4000000
namespace UP
open PySem PySem.Spec PyProof.Rows L2
/-! ### repr of plain data, where no other repr is under way -/
def rRepr (K : PySem.W.Frag) : List V → Hp → VK → Prop := fun xs H Q => ∃ (a : Addr) (d : PyData), xs = [.ref a] ∧ Dp K H (.ref a) d ∧ d.showable = true ∧ SeqAt.shaped d = true ∧ d.shown.length ≤ sizeLine ∧ Q (.str d.shown) H
theorem call_reprD {X : Cx} (hg : X.A.guards = some []) (hu : X.A.units + 70 < cLine) : CallR X (.builtin "repr") (rRepr X.K) := by
  intro pins s σ H xs us Q I r h
  obtain ⟨a, d, rfl, dp, sh, sp, sz, q⟩ := h
  obtain ⟨u, rfl, ru⟩ := vals1 r
  cases (show u = Value.ref a from ru)
  obtain ⟨as, rd⟩ := Dp.reads I d (.ref a) (.ref a) dp rfl
  have dd := SeqAt.depth_of_shaped sp
  refine repr_of_reads' rd sh (PyData.noDict_hsm (PyData.hasDict_of_canLay d (SeqAt.canLay_of_shaped sp))) hg (by omega) (fun _ _ e => e) (fun h' u tk hk => ?_) sz
  exact ⟨.str d.shown, H, I.kept (t' := tk) hk, ⟨u, rfl⟩, q⟩
/-! ### the law's own call, around it nothing -/
structure FnC (P : Program) (w : World) (K : PySem.W.Frag) (mg : Str → Option Value) (base : Heap) (f : Addr) (fd : FuncData) (ps : List Str) (sp : Sp) : Prop where
  go : ∀ (out : List Env) (s : Shared) (H : Hp) (args : Args) (us : List Value) (vs : List V) (Q : VK) (E : XK), Env0 P w K mg base callerA out s H → BindsTo s fd args (ps.zip us) → Vals vs us → sp vs H Q E →
    codeAny (model P w) callerA (.call (.ref f) args) (CR CX0 out P w H s Q E) s
theorem callerA_room : Room 8 callerA := ⟨rfl, by decide, by decide⟩
section
variable {P : Program} {w : World} {K : PySem.W.Frag} {mg : Str → Option Value} {base : Heap}
theorem fnC_of {x : Str} {st : Stmt} {f : Addr} {fd : FuncData} {ps N : List Str} {sp : Sp} (F : Fun K x x st f fd) (S : FnScope N ps (defScope st)) (len : ∀ vs H Q E, sp vs H Q E → vs.length = ps.length)
    (body : ∀ (cdv : Value) (out : List Env) (s : Shared) (H : Hp) (vs : List V) (Q : VK) (E : XK), Room 7 (callerA.deeper (envOfC x (defScope st) s.heap.objs.size f cdv)) → sp vs H Q E →
      ∃ t, PSs (cxOf CX0 P w K mg base N x (defScope st) f cdv callerA out s H E).nox (defBody st) t ∧ t { nx := fun _ H' => Q .non H', rt := Q } (start N vs) H) : FnC P w K mg base f fd ps sp := by
  obtain ⟨oc, od, kV, doc, pm, an, cdv, ct, osl, rfl, lk, hcd⟩ := F.ex
  refine ⟨fun out s H args us vs Q E e0 hb rv hsp => ?_⟩
  have inS : K.In s.heap := e0.mod.kin.keeps fun b o z => (e0.bs b o z).1
  have noL : s.heap.NoLimit := e0.mod.nolimit.keeps fun b o z => (e0.bs b o z).1
  have kinds : ∀ y ∈ ps.zip us, (defScope st).names.lookup y.1 = some .local ∨ ((defScope st).names.lookup y.1 = some .cell ∧ ((cellsFrom (s.heap.objs.size + 1) (defScope st).names []).lookup y.1).isSome = true) := by
    intro y hy
    rcases S.par y.1 (List.of_mem_zip (a := y.1) (b := y.2) hy).1 with z | z
    · exact Or.inl z
    · exact Or.inr ⟨z, PySem.W.cellsFrom_some _ _ _ (Or.inl z)⟩
  refine codeAny_call_function callerA_room.depth (inS _ _ lk) rfl S.co S.gen rfl (PySem.W.codeRec_of inS hcd) (hb _ _ _ _ ?_)
  refine wpAny_newFunctionEnv_cells S.kind kinds fun env he s1 inC => ?_
  subst he
  refine ⟨noL.keeps inC.toInCall.keep, codeAny_func ?_⟩
  obtain ⟨t, ht0, hq⟩ := body cdv out s H vs Q E (callerA_room.deeper _) hsp
  have ht := PSs.nox ht0
  have I0 : Inv (cxOf CX0 P w K mg base N x (defScope st) f cdv callerA out s H E) [] (start N vs) H s1 := inv_start S rfl e0 (len _ _ _ _ hsp) rv inC
  refine wpAny_mono (ht.run [] s1 (start N vs) H _ I0 hq) (fun fl s2 h2 => ?_) fun _ _ z => z
  cases fl with
  | next =>
    obtain ⟨σ2, H2, J, q2⟩ := h2
    exact ⟨V.non, H2, J.os, J.bare, J.base, J.hok, rfl, q2⟩
  | ret u =>
    obtain ⟨v, σ2, H2, J, rv2, q2⟩ := h2
    exact ⟨v, H2, J.os, J.bare, J.base, J.hok, rv2, q2⟩
  | brk =>
    obtain ⟨_, _, _, z⟩ := h2
    exact z.elim
  | cont =>
    obtain ⟨_, _, _, z⟩ := h2
    exact z.elim
end
/-- the heap that holds the script alone, locked -/
def oneH (a : Addr) (o : Obj) (xs : List V) : Hp := fun b => if b = a then some (.frz o (.lst xs)) else none
theorem run_law {P : Program} {w : World} {K : PySem.W.Frag} {mg mb : Str → Option Value} {fa a : Addr} {fd : FuncData} {x : Str} {sp : Sp} {s : Shared} {vs : List Value} {ns : List Int}
    (kx : K.In s.heap) (gns : s.heap.Ns mainGlobals mg) (bns : s.heap.Ns builtinsNs mb) (bb : ∀ y : Str, y ≠ "__name__" → mb y = bootBuiltins y) (nl : s.heap.NoLimit) (gens : s.gens = #[])
    (ob : s.heap.get? a = some { cls := .type "list", data := .seq vs.toArray }) (hin : IntsAre vs ns) (len : ns.length ≤ sizeLine) (F : ∀ base : Heap, K.In base → base.Ns mainGlobals mg → FnC P w K mg base fa fd [x] sp)
    (bind : ∀ (s : Shared) (u : Value), BindsTo s fd ⟨[u], []⟩ [(x, u)]) (hsp : ∀ H : Hp, SqL K H a (ns.map V.int) → sp [.ref a] H (fun v _ => v = .bl true) fun _ _ _ => False) :
    codeAny (model P w) callerA (.call (.ref fa) ⟨[.ref a], []⟩) (fun r s' => r = .ok (.ret (.bool true)) ∧ OldK s.heap s'.heap ∧ s'.os = s.os ∧ AllBare s'.gens) s := by
  have rel := vals_ints hin
  have step : ∀ H : Hp, (H = (fun _ => none) ∨ (H = oneH a { cls := .type "list", data := .seq vs.toArray } (ns.map V.int) ∧ K.lookup a = none)) → SqL K H a (ns.map V.int) → HOk P w H s.heap →
      codeAny (model P w) callerA (.call (.ref fa) ⟨[.ref a], []⟩) (fun r s' => r = .ok (.ret (.bool true)) ∧ OldK s.heap s'.heap ∧ s'.os = s.os ∧ AllBare s'.gens) s := by
    intro H hH hS hok
    have only : ∀ b u, H b = some u → b = a ∧ u = .frz { cls := .type "list", data := .seq vs.toArray } (.lst (ns.map V.int)) ∧ K.lookup a = none := by
      intro b u e
      rcases hH with z | ⟨z, z2⟩
      · rw [z] at e
        cases e
      · rw [z] at e
        by_cases hb : b = a
        · have e := (if_pos hb).symm.trans e
          cases e
          exact ⟨hb, rfl, z2⟩
        · have e := (if_neg hb).symm.trans e
          cases e
    have free : ∀ {b : Addr} {o : Obj}, s.heap.get? b = some o → (b = a → False) → (hidT s.heap H).get? b = some o := by
      intro b o e n
      refine hidT_get e ?_
      cases q : H b with
      | none => rfl
      | some u => exact (n (only b u q).1).elim
    have nss : ∀ {b : Addr} {m : Str → Option Value}, s.heap.Ns b m → (hidT s.heap H).Ns b m := by
      intro b m ⟨o, es, ep, e, d, r⟩
      refine ⟨o, es, ep, free e fun z => ?_, d, r⟩
      subst z
      rw [ob] at e
      cases e
      cases d
    have kb : K.In (hidT s.heap H) := by
      intro b o e
      refine hidT_get (kx b o e) ?_
      cases q : H b with
      | none => rfl
      | some u =>
        obtain ⟨z1, _, z2⟩ := only b u q
        rw [z1, z2] at e
        cases e
    have md : Mod K mg (hidT s.heap H) := ⟨kb, nss gns, ⟨mb, nss bns, bb⟩, by obtain ⟨mc, h1, h2⟩ := nl; exact ⟨mc, nss h1, h2⟩⟩
    have env : Env0 P w K mg (hidT s.heap H) callerA [] s H := ⟨rfl, md, fun b o e => of_hidT e, Nat.le_of_eq (hidT_size _ _), trivial, (fun b hb => by cases hb), hok, .of_eq gens⟩
    refine codeAny_mono ((F _ kb (nss gns)).go [] s H ⟨[.ref a], []⟩ [.ref a] [.ref a] _ _ env (bind s (.ref a)) (.cons rfl .nil) (hsp H hS)) fun r s' h => ?_
    cases r with
    | error e => exact h.elim
    | ok fl =>
      cases fl with
      | next => exact h.elim
      | brk => exact h.elim
      | cont => exact h.elim
      | ret u =>
        obtain ⟨v, H', o1, o2, un, hok', rv, q⟩ := h
        have q : v = .bl true := q
        subst q
        cases (show u = Value.bool true from rv)
        refine ⟨rfl, OldK.of_keep fun b o e => ?_, o1, o2⟩
        cases q : H b with
        | none => exact un.keep b o e q (fun z => by cases z) (fun z => by cases z)
        | some u =>
          obtain ⟨_, z, _⟩ := only b u q
          subst z
          obtain ⟨e1, _⟩ := hok b _ q
          obtain ⟨e2, _⟩ := hok' b _ (un.frzs b _ _ q)
          rw [e] at e1
          cases e1
          exact e2
  cases hk : K.lookup a with
  | some o =>
    have e := kx a o hk
    rw [ob] at e
    cases e
    refine step (fun _ => none) (.inl rfl) (.inr ⟨_, vs.toArray, _, hk, rfl, rfl, rfl, ?_, by simpa using rel⟩) fun b u z => by cases z
    rw [List.size_toArray, hin.length]
    exact len
  | none =>
    have at_a : oneH a { cls := .type "list", data := .seq vs.toArray } (ns.map V.int) a = some (.frz { cls := .type "list", data := .seq vs.toArray } (.lst (ns.map V.int))) := if_pos rfl
    refine step _ (.inr ⟨rfl, hk⟩) (.inl (.inr ⟨_, at_a⟩)) fun b u z => ?_
    by_cases hb : b = a
    · subst hb
      rw [at_a] at z
      cases z
      exact ⟨ob, by rw [List.length_map]; exact len, vs, _, rel, ob⟩
    · have z := (if_neg hb).symm.trans z
      cases z
theorem walkC {l : PySem.W.OpenLaw} {n : Nat} {q : Program} {loose : List Str} {XP : (Str → Option Value) → Heap → Prop} {YP : World → Heap → Prop} {d : DefRec} {K : Params → PySem.W.Frag} {sp : World → Sp} {x : Str}
    (hn : l.most = some n) (n2 : n ≤ sizeLine) (df : d.params.defaults = []) (hY : ∀ (w : World) (h : Heap), YP w h → (K w.params).In h)
    (F : ∀ (w : World) (mg : Str → Option Value) (fa : Addr) (h : Heap), (K w.params).In h → h.Ns mainGlobals mg → mg d.name = some (.ref fa) →
      ∃ fd : FuncData, (∀ (s : Shared) (u : Value), BindsTo s fd ⟨[u], []⟩ [(x, u)]) ∧ ∀ base : Heap, (K w.params).In base → base.Ns mainGlobals mg → FnC l.prog w (K w.params) mg base fa fd [x] (sp w))
    (hsp : ∀ (w : World) (H : Hp) (a : Addr) (ns : List Int), ns.length ≤ n → SqL (K w.params) H a (ns.map V.int) → sp w [.ref a] H (fun v _ => v = .bl true) fun _ _ _ => False) :
    PySem.W.WalkO q loose XP YP l.row.toRowW d [] (fun f vs => PySem.call f vs) := by
  refine Att.attach_call hn df fun w s₀ s mg mb fa o pm cd doc a vs ns G Y ho hd hcd hmg hobj hints hlen hg => ?_
  have kx := hY w _ Y
  obtain ⟨fd, hb, hF⟩ := F w mg fa _ kx G.T.g hmg
  exact run_law kx G.T.g G.T.b G.T.builtins G.T.nolimit hg hobj hints (Nat.le_trans hlen n2) hF hb fun H hS => hsp w H a ns hlen hS
end UP

set_option Elab.async false
set_option linter.all false
set_option maxRecDepth 100000
set_option maxHeartbeats 4000000
namespace UP
open PySem PySem.Spec PyProof.Rows L2
/-! ### lists or tuples -/
def Sq2 (H : Hp) (a : Addr) (xs : List V) : Prop := H a = some (.lst xs) ∨ H a = some (.tup xs)
theorem Sq2.same {H H' : Hp} {a : Addr} {xs : List V} (s : Same H H') (h : Sq2 H a xs) : Sq2 H' a xs := h.elim (fun z => .inl (s _ _ z)) (fun z => .inr (s _ _ z))
/-- a walk over the items xs, from the heap H on -/
structure Wk (J : It) (H : Hp) (xs : List V) : Prop where
  go : ∀ i H', Same H H' → i < xs.length → J.go i H'
  stop : ∀ H', Same H H' → J.stop xs.length H'
  yld : ∀ i x H' H'', Same H H' → J.yld i H' x H'' → H'' = H' ∧ xs[i]? = some x
theorem wk_list {K : PySem.W.Frag} {H : Hp} {a : Addr} {xs : List V} (h : H a = some (.lst xs)) : Wk (Itl K a) H xs :=
  ⟨fun i H' s hi => ⟨xs, xs[i], .of (s _ _ h), List.getElem?_eq_getElem hi⟩, fun H' s => ⟨xs, .of (s _ _ h), Nat.le_refl _⟩, fun i x H' H'' s y => ⟨y.1, y.2 xs (.of (s _ _ h))⟩⟩
theorem wk_tup {K : PySem.W.Frag} {H : Hp} {a : Addr} {xs : List V} (h : H a = some (.tup xs)) : Wk (Itt K a) H xs :=
  ⟨fun i H' s hi => ⟨xs, xs[i], .of (s _ _ h), List.getElem?_eq_getElem hi⟩, fun H' s => ⟨xs, .of (s _ _ h), Nat.le_refl _⟩, fun i x H' H'' s y => ⟨y.1, y.2 xs (.of (s _ _ h))⟩⟩
def iSeqV (i : Nat) : TI := fun σ H R => ∃ a xs, σ[i]? = some (some (.ref a)) ∧ Sq2 H a xs ∧ ∀ J, Wk J H xs → R J H
section
variable {X : Cx}
theorem pi_seqV (i : Nat) {x : Str} {pos : Pos} {tg : Expr} (hN : X.N[i]? = some x := by rfl) (hv : Vis X.env.scope x := by first | exact Or.inl rfl | exact Or.inr (Or.inl rfl) | exact Or.inr (Or.inr rfl)) (hd : (x == ("__debug__" : Str)) = false := by decide)
    (hc : (x == ("__classdict__" : Str)) = false := by decide) : PI X tg (.Name x pos) (iSeqV i) := by
  refine ⟨fun pins s σ H R I hw => ?_⟩
  obtain ⟨a, xs, e, h, k⟩ := hw
  rcases h with h | h
  · exact (pi_list (pe_var hN hv hd hc)).run pins s σ H R I ⟨_, e, a, rfl, ⟨xs, .of h⟩, k _ (wk_list h)⟩
  · exact (pi_tup (pe_var hN hv hd hc)).run pins s σ H R I ⟨_, e, a, rfl, ⟨xs, .of h⟩, k _ (wk_tup h)⟩
def gAny (n : Nat) (t : TGs) : TG := fun v σ H Q => ∃ a xs, v = .ref a ∧ Sq2 H a xs ∧ xs.length = n ∧ t xs σ H Q
theorem pg_any {es : List Expr} {k n : Nat} {t : TGs} {pos : Pos} (hc : X.calm = true) (h : PGs X es t) (hn : (assignEach es X.env).length = n := by rfl) (hst : (assignEach es X.env).findIdx? (fun z => z.1) = none := by rfl) : PG X (.Tuple es k pos) (gAny n t) := by
  refine ⟨fun pins s σ H v u Q I r hw => ?_⟩
  obtain ⟨a, xs, e, hx, hl, hw⟩ := hw
  rcases hx with z | z
  · exact (pg_unl hc h hn hst).run pins s σ H v u Q I r ⟨a, xs, e, .of z, hl, hw⟩
  · exact (pg_tup hc h hn hst).run pins s σ H v u Q I r ⟨a, xs, e, .of z, hl, hw⟩
/-- zip(x, x[1:]) -/
structure WkZ (J : It) (H : Hp) (xs : List V) : Prop where
  go : ∀ i H', Same H H' → i + 1 < xs.length → J.go i H'
  stop : ∀ H', Same H H' → J.stop (xs.length - 1) H'
  yld : ∀ i x H' H'', Same H H' → J.yld i H' x H'' → ∃ T x1 x2, x = .ref T ∧ H' T = none ∧ H'' = upd H' T (.tup [x1, x2]) ∧ xs[i]? = some x1 ∧ (i + 1 < xs.length → xs[i + 1]? = some x2)
def iZip1 (i : Nat) : TI := fun σ H R => ∃ a xs, σ[i]? = some (some (.ref a)) ∧ Sq2 H a xs ∧ ∀ J H', Same H H' → WkZ J H' xs → R J H'
theorem cutt_one (xs : List V) : cutV xs (some 1) none = xs.drop 1 := by
  have e : HT.sIx xs.length 0 (some 1) = min 1 xs.length := HT.sIx_nat xs.length 0 1
  unfold cutV
  rw [e, HT.sIx_none]
  cases xs with
  | nil => rfl
  | cons x r =>
    have e1 : min 1 (x :: r).length = 1 := by simp only [List.length_cons]; omega
    rw [e1]
    simp
theorem pi_zip1 {i : Nat} {tg it : Expr} {tl th : TO} (h : PI X tg it (RZ.iZipA X.K (tCons (tVar i) (tCons (tSl (fun x lo hi H Q => rSlL X.K x lo hi H Q ∨ rSlA X.K x lo hi H Q) (tVar i) tl th) tNil))))
    (h1 : ∀ (σ : L2.St) (H : Hp) (Q : Option Int → Hp → Prop), Q (some 1) H → tl σ H Q) (h2 : ∀ (σ : L2.St) (H : Hp) (Q : Option Int → Hp → Prop), Q none H → th σ H Q) : PI X tg it (iZip1 i) := by
  refine ⟨fun pins s σ H R I hw => h.run pins s σ H R I ?_⟩
  obtain ⟨a, xs, e, hx, k⟩ := hw
  refine ⟨_, e, _, e, h1 σ H _ (h2 σ H _ ?_)⟩
  have gn : ∀ j : Nat, (xs.drop 1)[j]? = xs[j + 1]? := fun j => by rw [List.getElem?_drop, Nat.add_comm 1 j]
  rcases hx with hx | hx
  · refine .inl ⟨a, xs, rfl, .of hx, fun c nc => ?_⟩
    have sc : Same H (upd H c (.lst (cutV xs (some 1) none))) := fun b o z => by rw [upd_ne (ne_of_none z nc)]; exact z
    have hc : (upd H c (.lst (cutV xs (some 1) none))) c = some (.lst (xs.drop 1)) := by rw [upd_same, cutt_one]
    refine ⟨a, c, xs, xs.drop 1, rfl, .inl ⟨.of (sc _ _ hx), .of hc, k _ _ sc ⟨fun j H' sj hj => ?_, fun H' sj => ?_, fun j x H' H'' sj y => ?_⟩⟩⟩
    · exact ⟨xs, xs.drop 1, xs[j], xs[j + 1], .of (sj _ _ (sc _ _ hx)), .of (sj _ _ hc), List.getElem?_eq_getElem (by omega), by rw [gn]; exact List.getElem?_eq_getElem hj⟩
    · exact ⟨xs, xs.drop 1, .of (sj _ _ (sc _ _ hx)), .of (sj _ _ hc), .inr (by rw [List.length_drop]; exact Nat.le_refl _)⟩
    · obtain ⟨T, x1, x2, e1, e2, e3, f1, f2⟩ := y
      exact ⟨T, x1, x2, e1, e2, e3, f1 xs (.of (sj _ _ (sc _ _ hx))), fun _ => by rw [← gn]; exact f2 _ (.of (sj _ _ hc))⟩
  · refine .inr ⟨a, xs, rfl, .of hx, fun z => ?_, fun z c nc => ?_⟩
    · have lz : xs.length = 0 := by
        have z1 := z.1
        rw [show HT.sIx xs.length 0 (some 1) = min 1 xs.length from HT.sIx_nat xs.length 0 1] at z1
        omega
      refine ⟨a, a, xs, xs, rfl, .inr ⟨.of hx, .of hx, k _ _ (Same.refl _) ⟨fun j H' sj hj => by omega, fun H' sj => ⟨xs, xs, .of (sj _ _ hx), .of (sj _ _ hx), .inl (by omega)⟩, fun j x H' H'' sj y => ?_⟩⟩⟩
      obtain ⟨T, x1, x2, e1, e2, e3, f1, f2⟩ := y
      exact ⟨T, x1, x2, e1, e2, e3, f1 xs (.of (sj _ _ hx)), fun hj => by omega⟩
    · have sc : Same H (upd H c (.tup (cutV xs (some 1) none))) := fun b o z => by rw [upd_ne (ne_of_none z nc)]; exact z
      have hc : (upd H c (.tup (cutV xs (some 1) none))) c = some (.tup (xs.drop 1)) := by rw [upd_same, cutt_one]
      refine ⟨a, c, xs, xs.drop 1, rfl, .inr ⟨.of (sc _ _ hx), .of hc, k _ _ sc ⟨fun j H' sj hj => ?_, fun H' sj => ?_, fun j x H' H'' sj y => ?_⟩⟩⟩
      · exact ⟨xs, xs.drop 1, xs[j], xs[j + 1], .of (sj _ _ (sc _ _ hx)), .of (sj _ _ hc), List.getElem?_eq_getElem (by omega), by rw [gn]; exact List.getElem?_eq_getElem hj⟩
      · exact ⟨xs, xs.drop 1, .of (sj _ _ (sc _ _ hx)), .of (sj _ _ hc), .inr (by rw [List.length_drop]; exact Nat.le_refl _)⟩
      · obtain ⟨T, x1, x2, e1, e2, e3, f1, f2⟩ := y
        exact ⟨T, x1, x2, e1, e2, e3, f1 xs (.of (sj _ _ (sc _ _ hx))), fun _ => by rw [← gn]; exact f2 _ (.of (sj _ _ hc))⟩
end
/-! ### runs and states, dressed -/
def RunG (H : Hp) (v : V) (r : Run) : Prop := ∃ t, v = .ref t ∧ Sq2 H t [.str r.1, .int r.2]
def RunsG (H : Hp) (v : V) (rs : List Run) : Prop := ∃ a xs, v = .ref a ∧ Sq2 H a xs ∧ Paired (RunG H) xs rs
def StG (H : Hp) (v : V) : Option Run → Prop
  | none => v = .non
  | some r => RunG H v r
theorem RunG.same {H H' : Hp} {v : V} {r : Run} (s : Same H H') (h : RunG H v r) : RunG H' v r := by
  obtain ⟨t, e, h⟩ := h
  exact ⟨t, e, h.same s⟩
theorem RunsG.same {H H' : Hp} {v : V} {rs : List Run} (s : Same H H') (h : RunsG H v rs) : RunsG H' v rs := by
  obtain ⟨a, xs, e, hx, p⟩ := h
  exact ⟨a, xs, e, hx.same s, Paired.imp (fun _ _ => RunG.same s) p⟩
theorem StG.same {H H' : Hp} {v : V} {st : Option Run} (s : Same H H') (h : StG H v st) : StG H' v st := by
  cases st with
  | none => exact h
  | some r => exact RunG.same s h
theorem RunV.dress {H : Hp} {v : V} {r : Run} (h : RunV H v r) : RunG H v r := by
  obtain ⟨t, e, h⟩ := h
  exact ⟨t, e, .inr h⟩
theorem Runs.dress {H : Hp} {a : Addr} {rs : List Run} (h : Runs H a rs) : RunsG H (.ref a) rs := by
  obtain ⟨xs, hx, p⟩ := h
  exact ⟨a, xs, rfl, .inl hx, Paired.imp (fun _ _ => RunV.dress) p⟩
theorem StV.dress {H : Hp} {v : V} {st : Option Run} (h : StV H v st) : StG H v st := by
  cases st with
  | none => exact h
  | some r => exact RunV.dress h
theorem Sq2.but {H H' : Hp} {sp a : Addr} {xs : List V} (z : Spr H sp) (s : But sp H H') (h : Sq2 H a xs) (n : ∀ d e f, xs ≠ [.int d, .int e, .int f]) : Sq2 H' a xs := by
  obtain ⟨d, e, f, hs, _⟩ := z
  rcases h with h | h
  · exact .inl (s _ _ (ne_of h hs fun q => n d e f (HO.lst.inj q)) h)
  · exact .inr (s _ _ (ne_of h hs fun q => by cases q) h)
theorem RunG.but {H H' : Hp} {sp : Addr} {v : V} {r : Run} (z : Spr H sp) (s : But sp H H') (h : RunG H v r) : RunG H' v r := by
  obtain ⟨t, e, h⟩ := h
  exact ⟨t, e, h.but z s fun _ _ _ q => by cases q⟩
theorem RunsG.but {H H' : Hp} {sp : Addr} {v : V} {rs : List Run} (z : Spr H sp) (s : But sp H H') (h : RunsG H v rs) : RunsG H' v rs := by
  obtain ⟨a, xs, e, hx, p⟩ := h
  refine ⟨a, xs, e, hx.but z s fun d _ _ q => ?_, Paired.imp (fun _ _ => RunG.but z s) p⟩
  subst q
  cases p with
  | cons h _ =>
    obtain ⟨_, e, _⟩ := h
    cases e
theorem StG.but {H H' : Hp} {sp : Addr} {v : V} {st : Option Run} (z : Spr H sp) (s : But sp H H') (h : StG H v st) : StG H' v st := by
  cases st with
  | none => exact h
  | some r => exact RunG.but z s h
end UP

set_option Elab.async false
set_option linter.all false
set_option maxRecDepth 100000
set_option maxHeartbeats 4000000
namespace UP
open PySem PySem.Spec PyProof.Rows L2
def topS (i : Nat) : Stmt := PySem.Challenge.pw_unlikepairs_k24_round_errors.main.body.getD i (.Pass ⟨0, 0, 0, 0⟩)
structure Tx (mg : Str → Option Value) : Prop where
  n_isinstance : mg "isinstance" = none
  n_int : mg "int" = none
  n_bool : mg "bool" = none
  n_str : mg "str" = none
  n_list : mg "list" = none
  n_tuple : mg "tuple" = none
  n_len : mg "len" = none
  n_all : mg "all" = none
  n_zip : mg "zip" = none
  n_sum : mg "sum" = none
  n_min : mg "min" = none
  n_max : mg "max" = none
  n_abs : mg "abs" = none
  n_range : mg "range" = none
  n_repr : mg "repr" = none
  n_enumerate : mg "enumerate" = none
  n_any : mg "any" = none
  n_dict : mg "dict" = none
  n_sorted : mg "sorted" = none
  n_set : mg "set" = none
  n_reversed : mg "reversed" = none
  n_ValueError : mg "ValueError" = none
  c_MAX_LETTERS : ∃ t, mg "MAX_LETTERS" = some (.int 8 t)
  c_MAX_RUNS : ∃ t, mg "MAX_RUNS" = some (.int 400 t)
  c_MAX_ITEMS : ∃ t, mg "MAX_ITEMS" = some (.int 400 t)
  c_MAX_COUNT : ∃ t, mg "MAX_COUNT" = some (.int 1000000000000000000000000000000 t)
  c_MAX_ROUNDS : ∃ t, mg "MAX_ROUNDS" = some (.int 1000000000000000000000000000000 t)
/-! ### values of any form that a menu holds -/
inductive Dat where
  | non
  | bl (b : Bool)
  | int (n : Int)
  | str (z : Str)
  | dic
  | lst (l : List Dat)
  | tup (l : List Dat)
inductive Rp (H : Hp) : V → Dat → Prop where
  | non : Rp H .non .non
  | bl (b : Bool) : Rp H (.bl b) (.bl b)
  | int (n : Int) : Rp H (.int n) (.int n)
  | str (z : Str) : Rp H (.str z) (.str z)
  | dic {a : Addr} (e : H a = some (.dK [])) : Rp H (.ref a) .dic
  | lst {a : Addr} {xs : List V} {l : List Dat} (e : H a = some (.lst xs)) (h : Paired (Rp H) xs l) : Rp H (.ref a) (.lst l)
  | tup {a : Addr} {xs : List V} {l : List Dat} (e : H a = some (.tup xs)) (h : Paired (Rp H) xs l) : Rp H (.ref a) (.tup l)
theorem Rp.same {H H' : Hp} (s : Same H H') {v : V} {d : Dat} (h : Rp H v d) : Rp H' v d := by
  refine Rp.rec (motive_1 := fun v d _ => Rp H' v d) (motive_2 := fun xs l _ => Paired (Rp H') xs l) .non .bl .int .str ?_ ?_ ?_ .nil ?_ h
  · intro a e
    exact .dic (s _ _ e)
  · intro a xs l e _ ih
    exact .lst (s _ _ e) ih
  · intro a xs l e _ ih
    exact .tup (s _ _ e) ih
  · intro x y xs ys _ _ h1 h2
    exact .cons h1 h2
def Dat.isI : Dat → Bool
  | .int _ => true
  | _ => false
def Dat.inI (lo hi : Int) : Dat → Bool
  | .int n => decide (lo ≤ n ∧ n ≤ hi)
  | _ => false
/-- its parts, if it is a list or a tuple -/
def Dat.parts : Dat → Option (List Dat)
  | .lst l => some l
  | .tup l => some l
  | _ => none
def Dat.listed (d : Dat) (m : Int) : Bool := match d.parts with
  | some l => decide ((l.length : Int) ≤ m)
  | none => false
def Dat.couple (d : Dat) : Bool := match d.parts with
  | some l => decide (l.length = 2)
  | none => false
/-- the name of its type -/
def Dat.ty : Dat → String
  | .non => "NoneType"
  | .bl _ => "bool"
  | .int _ => "int"
  | .str _ => "str"
  | .dic => "dict"
  | .lst _ => "list"
  | .tup _ => "tuple"
theorem Rp.tyx {K : PySem.W.Frag} {H : Hp} {v : V} {d : Dat} (h : Rp H v d) : TyX K H v (.type d.ty) := by
  cases h with
  | non => exact .base .non
  | bl b => exact .base (.bl b)
  | int n => exact .base (.int n)
  | str z => exact .base (.str z)
  | dic e => exact .base (.dK e)
  | lst e _ => exact .base (.lst e)
  | tup e _ => exact .base (.tup e)
theorem kit_lst {K : PySem.W.Frag} : PySem.W.kitAny K (.type "list") [.type "list", .type "tuple"] = some true := kitAny_cons (b := true) (kit_ty (by decide +kernel)) (fun z => nomatch z) (fun _ => rfl)
theorem kit_tup {K : PySem.W.Frag} : PySem.W.kitAny K (.type "tuple") [.type "list", .type "tuple"] = some true := kitAny_cons (b := false) (kit_ty (by decide +kernel)) (fun _ => kitAny_cons (b := true) (kit_ty (by decide +kernel)) (fun z => nomatch z) (fun _ => rfl)) (fun z => nomatch z)
theorem kit_no {K : PySem.W.Frag} {n : String} (h1 : kitB n "list" = some false) (h2 : kitB n "tuple" = some false) : PySem.W.kitAny K (.type n) [.type "list", .type "tuple"] = some false := kitAny_cons (b := false) (kit_ty h1) (fun _ => kitAny_cons (b := false) (kit_ty h2) (fun _ => rfl) (fun z => nomatch z)) (fun z => nomatch z)
theorem Rp.noSeq {K : PySem.W.Frag} {H : Hp} {v : V} {d : Dat} (h : Rp H v d) (hd : d.parts = none) : ∃ t, TyX K H v t ∧ PySem.W.kitAny K t [.type "list", .type "tuple"] = some false := by
  cases h with
  | non => exact ⟨_, .base .non, kit_no (by decide +kernel) (by decide +kernel)⟩
  | bl b => exact ⟨_, .base (.bl b), kit_no (by decide +kernel) (by decide +kernel)⟩
  | int n => exact ⟨_, .base (.int n), kit_no (by decide +kernel) (by decide +kernel)⟩
  | str z => exact ⟨_, .base (.str z), kit_no (by decide +kernel) (by decide +kernel)⟩
  | dic e => exact ⟨_, .base (.dK e), kit_no (by decide +kernel) (by decide +kernel)⟩
  | lst e _ => cases hd
  | tup e _ => cases hd
theorem Rp.seq {H : Hp} {v : V} {d : Dat} (h : Rp H v d) {l : List Dat} (hd : d.parts = some l) : ∃ a xs, v = .ref a ∧ Sq2 H a xs ∧ Paired (Rp H) xs l := by
  cases h with
  | non => cases hd
  | bl b => cases hd
  | int n => cases hd
  | str z => cases hd
  | dic e => cases hd
  | lst e h => cases hd; exact ⟨_, _, rfl, .inl e, h⟩
  | tup e h => cases hd; exact ⟨_, _, rfl, .inr e, h⟩
theorem giP {b : Bool} {A B : Prop} (h : b = true) (x : A) : if b = true then A else B := by
  rw [if_pos h]
  exact x
theorem giN {b : Bool} {A B : Prop} (h : b = false) (x : B) : if b = true then A else B := by
  rw [if_neg (by rw [h]; decide)]
  exact x
section
variable {P : Program} {w : World} {K : PySem.W.Frag} {mg : Str → Option Value} {base : Heap}
/-! is_whole: slots 0:value -/
abbrev s_is_whole : Stmt := topS 26
theorem sc_is_whole : FnScope ["value"] ["value"] (defScope s_is_whole) := ⟨rfl, rfl, rfl, by decide +kernel, rfl, by decide +kernel, by decide +kernel⟩
def sp_is_whole : Sp := fun vs H Q _ => ∃ (v : V) (d : Dat), vs = [v] ∧ Rp H v d ∧ Q (.bl d.isI) H
theorem ok_is_whole (D : Df K mg "is_whole" s_is_whole) (T : Tx mg) : Has P w K mg base 1 "is_whole" ["value"] sp_is_whole := by
  refine has_of D sc_is_whole (fun _ _ _ _ _ _ us hl => match us, hl with | [_], _ => rfl) (fun vs H Q E h => ?_) (fun f cdv A outer s H vs Q E hr h => ?_)
  · obtain ⟨v, d, rfl, _⟩ := h
    rfl
  · obtain ⟨v, d, rfl, hv, q⟩ := h
    refine ⟨_, (pss_one (ps_ret (pe_and (pe_callB call_isi (by rfl) T.n_isinstance (by decide +kernel) (pa_cons (pv 0) (pa_cons (pe_bltn (v := .ty "int") (by rfl) T.n_int (by decide +kernel) rfl) pa_nil))) (pe_one (pe_not (pe_callB call_isi (by rfl) T.n_isinstance (by decide +kernel) (pa_cons (pv 0) (pa_cons (pe_bltn (v := .ty "bool") (by rfl) T.n_bool (by decide +kernel) rfl) pa_nil)))))))), ?_⟩
    cases hv with
    | int n => exact ⟨_, rfl, _, _, _, _, true, rfl, .ty "int", .base (.int n), kit_ty (by decide +kernel), true, rfl, iteT ⟨_, rfl, _, _, _, _, false, rfl, .ty "bool", .base (.int n), kit_ty (by decide +kernel), false, rfl, q⟩⟩
    | bl b => exact ⟨_, rfl, _, _, _, _, true, rfl, .ty "int", .base (.bl b), kit_ty (by decide +kernel), true, rfl, iteT ⟨_, rfl, _, _, _, _, true, rfl, .ty "bool", .base (.bl b), kit_ty (by decide +kernel), true, rfl, q⟩⟩
    | non => exact ⟨_, rfl, _, _, _, _, false, rfl, .ty "int", .base .non, kit_ty (by decide +kernel), false, rfl, iteF q⟩
    | str z => exact ⟨_, rfl, _, _, _, _, false, rfl, .ty "int", .base (.str z), kit_ty (by decide +kernel), false, rfl, iteF q⟩
    | dic e => exact ⟨_, rfl, _, _, _, _, false, rfl, .ty "int", .base (.dK e), kit_ty (by decide +kernel), false, rfl, iteF q⟩
    | lst e h => exact ⟨_, rfl, _, _, _, _, false, rfl, .ty "int", .base (.lst e), kit_ty (by decide +kernel), false, rfl, iteF q⟩
    | tup e h => exact ⟨_, rfl, _, _, _, _, false, rfl, .ty "int", .base (.tup e), kit_ty (by decide +kernel), false, rfl, iteF q⟩
/-! is_within: slots 0:value 1:low 2:high -/
abbrev s_is_within : Stmt := topS 27
theorem sc_is_within : FnScope ["value", "low", "high"] ["value", "low", "high"] (defScope s_is_within) := ⟨rfl, rfl, rfl, by decide +kernel, rfl, by decide +kernel, by decide +kernel⟩
def sp_is_within : Sp := fun vs H Q _ => ∃ (v : V) (d : Dat) (lo hi : Int), vs = [v, .int lo, .int hi] ∧ Rp H v d ∧ Q (.bl (d.inI lo hi)) H
theorem ok_is_within (D : Df K mg "is_within" s_is_within) (G_is_whole : Has P w K mg base 1 "is_whole" ["value"] sp_is_whole) : Has P w K mg base 2 "is_within" ["value", "low", "high"] sp_is_within := by
  refine has_of D sc_is_within (fun _ _ _ _ _ _ us hl => match us, hl with | [_, _, _], _ => rfl) (fun vs H Q E h => ?_) (fun f cdv A outer s H vs Q E hr h => ?_)
  · obtain ⟨v, d, lo, hi, rfl, _⟩ := h
    rfl
  · obtain ⟨v, d, lo, hi, rfl, hv, q⟩ := h
    refine ⟨_, (pss_one (ps_ret (pe_and (pe_callH G_is_whole (hr.mono (by omega)) (by rfl) (pa_cons (pv 0) pa_nil)) (pe_one (pe_chain op_le op_le (pv 1) (pv 0) (pv 2)))))), ?_⟩
    refine ⟨_, rfl, v, d, rfl, hv, d.isI, rfl, ?_⟩
    by_cases ci : d.isI = true
    · refine giP ci ?_
      cases hv with
      | int n =>
        refine ⟨_, rfl, _, rfl, _, _, rfl, rfl, _, rfl, ite2 (fun e => ?_) (fun e => ?_)⟩
        · have e := of_decide_eq_true e
          refine ⟨_, rfl, _, _, rfl, rfl, ?_⟩
          show Q (.bl (decide (n ≤ hi))) H
          rw [show decide (n ≤ hi) = (Dat.int n).inI lo hi by show _ = decide (lo ≤ n ∧ n ≤ hi); simp [e]]
          exact q
        · have e : ¬ lo ≤ n := fun z => e (decide_eq_true z)
          show Q (.bl false) H
          rw [show false = (Dat.int n).inI lo hi by show _ = decide (lo ≤ n ∧ n ≤ hi); simp [e]]
          exact q
      | _ => cases ci
    · refine giN (by simpa using ci) ?_
      have e : d.inI lo hi = false := by
        cases d with
        | int n => exact absurd rfl ci
        | _ => rfl
      rw [e] at q
      exact q
/-! is_listed: slots 0:value 1:most -/
abbrev s_is_listed : Stmt := topS 28
theorem sc_is_listed : FnScope ["value", "most"] ["value", "most"] (defScope s_is_listed) := ⟨rfl, rfl, rfl, by decide +kernel, rfl, by decide +kernel, by decide +kernel⟩
def sp_is_listed : Sp := fun vs H Q _ => ∃ (v : V) (d : Dat) (m : Int), vs = [v, .int m] ∧ Rp H v d ∧ ∀ H', Same H H' → Q (.bl (d.listed m)) H'
theorem ok_is_listed (D : Df K mg "is_listed" s_is_listed) (T : Tx mg) : Has P w K mg base 1 "is_listed" ["value", "most"] sp_is_listed := by
  refine has_of D sc_is_listed (fun _ _ _ _ _ _ us hl => match us, hl with | [_, _], _ => rfl) (fun vs H Q E h => ?_) (fun f cdv A outer s H vs Q E hr h => ?_)
  · obtain ⟨v, d, m, rfl, _⟩ := h
    rfl
  · obtain ⟨v, d, m, rfl, hv, q⟩ := h
    refine ⟨_, (pss_one (ps_ret (pe_and (pe_callB call_isiT (by rfl) T.n_isinstance (by decide +kernel) (pa_cons (pv 0) (pa_cons (pe_tup (pa_cons (pe_bltn (v := .ty "list") (by rfl) T.n_list (by decide +kernel) rfl) (pa_cons (pe_bltn (v := .ty "tuple") (by rfl) T.n_tuple (by decide +kernel) rfl) pa_nil))) pa_nil))) (pe_one (pe_cmpR op_le (pe_callB call_len_seq (by rfl) T.n_len (by decide +kernel) (pa_cons (pv 0) pa_nil)) (pv 1) (nomark _)))))), ?_⟩
    refine ⟨_, rfl, (by show 2 ≤ sizeLine; decide), fun t nt => ?_⟩
    have q := q _ (same_upd (o := .tup [.ty "list", .ty "tuple"]) nt)
    have hv := hv.same (same_upd (o := .tup [.ty "list", .ty "tuple"]) nt)
    cases hd : d.parts with
    | none =>
      obtain ⟨tv, h1, h2⟩ := hv.noSeq (K := K) hd
      refine ⟨_, t, _, _, _, false, rfl, upd_same, .cons (.ty "list") (.cons (.ty "tuple") .nil), h1, h2, false, rfl, iteF ?_⟩
      rw [show d.listed m = false by unfold Dat.listed; rw [hd]] at q
      exact q
    | some l =>
      obtain ⟨a, xs, rfl, hx, hp⟩ := hv.seq hd
      have ll : xs.length = l.length := Paired.len hp
      rw [show d.listed m = decide ((xs.length : Int) ≤ m) by unfold Dat.listed; rw [hd, ll]] at q
      rcases hx with hx | hx
      · refine ⟨_, t, _, _, _, true, rfl, upd_same, .cons (.ty "list") (.cons (.ty "tuple") .nil), .base (.lst hx), kit_lst, true, rfl, iteT ?_⟩
        exact ⟨_, rfl, _, _, rfl, .inl (.of hx), _, rfl, _, _, rfl, rfl, q⟩
      · refine ⟨_, t, _, _, _, true, rfl, upd_same, .cons (.ty "list") (.cons (.ty "tuple") .nil), .base (.tup hx), kit_tup, true, rfl, iteT ?_⟩
        exact ⟨_, rfl, _, _, rfl, .inr (.of hx), _, rfl, _, _, rfl, rfl, q⟩
/-! is_couple: slots 0:value -/
abbrev s_is_couple : Stmt := topS 29
theorem sc_is_couple : FnScope ["value"] ["value"] (defScope s_is_couple) := ⟨rfl, rfl, rfl, by decide +kernel, rfl, by decide +kernel, by decide +kernel⟩
def sp_is_couple : Sp := fun vs H Q _ => ∃ (v : V) (d : Dat), vs = [v] ∧ Rp H v d ∧ ∀ H', Same H H' → Q (.bl d.couple) H'
theorem ok_is_couple (D : Df K mg "is_couple" s_is_couple) (T : Tx mg) : Has P w K mg base 1 "is_couple" ["value"] sp_is_couple := by
  refine has_of D sc_is_couple (fun _ _ _ _ _ _ us hl => match us, hl with | [_], _ => rfl) (fun vs H Q E h => ?_) (fun f cdv A outer s H vs Q E hr h => ?_)
  · obtain ⟨v, d, rfl, _⟩ := h
    rfl
  · obtain ⟨v, d, rfl, hv, q⟩ := h
    refine ⟨_, (pss_one (ps_ret (pe_and (pe_callB call_isiT (by rfl) T.n_isinstance (by decide +kernel) (pa_cons (pv 0) (pa_cons (pe_tup (pa_cons (pe_bltn (v := .ty "list") (by rfl) T.n_list (by decide +kernel) rfl) (pa_cons (pe_bltn (v := .ty "tuple") (by rfl) T.n_tuple (by decide +kernel) rfl) pa_nil))) pa_nil))) (pe_one (pe_cmpR op_eq (pe_callB call_len_seq (by rfl) T.n_len (by decide +kernel) (pa_cons (pv 0) pa_nil)) pe_int (nomark _)))))), ?_⟩
    refine ⟨_, rfl, (by show 2 ≤ sizeLine; decide), fun t nt => ?_⟩
    have q := q _ (same_upd (o := .tup [.ty "list", .ty "tuple"]) nt)
    have hv := hv.same (same_upd (o := .tup [.ty "list", .ty "tuple"]) nt)
    cases hd : d.parts with
    | none =>
      obtain ⟨tv, h1, h2⟩ := hv.noSeq (K := K) hd
      refine ⟨_, t, _, _, _, false, rfl, upd_same, .cons (.ty "list") (.cons (.ty "tuple") .nil), h1, h2, false, rfl, iteF ?_⟩
      rw [show d.couple = false by unfold Dat.couple; rw [hd]] at q
      exact q
    | some l =>
      obtain ⟨a, xs, rfl, hx, hp⟩ := hv.seq hd
      have ll : xs.length = l.length := Paired.len hp
      have eb : decide (V.int (xs.length : Int) = V.int 2) = d.couple := by
        unfold Dat.couple
        rw [hd]
        show _ = decide (l.length = 2)
        rw [← ll]
        exact decide_eq_decide.mpr ⟨fun z => by have := V.int.inj z; omega, fun z => by rw [z]; rfl⟩
      rw [← eb] at q
      rcases hx with hx | hx
      · exact ⟨_, t, _, _, _, true, rfl, upd_same, .cons (.ty "list") (.cons (.ty "tuple") .nil), .base (.lst hx), kit_lst, true, rfl, iteT ⟨_, rfl, _, _, rfl, .inl (.of hx), rfl, q⟩⟩
      · exact ⟨_, t, _, _, _, true, rfl, upd_same, .cons (.ty "list") (.cons (.ty "tuple") .nil), .base (.tup hx), kit_tup, true, rfl, iteT ⟨_, rfl, _, _, rfl, .inr (.of hx), rfl, q⟩⟩
end
end UP

set_option Elab.async false
set_option linter.all false
set_option maxRecDepth 100000
set_option maxHeartbeats 4000000
namespace UP
open PySem PySem.Spec PyProof.Rows L2
theorem iteP {b : Bool} {A B : Prop} (h : b = true) (x : A) : if b = true then A else B := by
  rw [if_pos h]
  exact x
theorem iteN {b : Bool} {A B : Prop} (h : b = false) (x : B) : if b = true then A else B := by
  rw [if_neg (by rw [h]; decide)]
  exact x
theorem yesT {σ : L2.St} {H : Hp} {A B : Hp → Prop} (h : A H) : tYes σ H (fun b H3 => if b = true then A H3 else B H3) := by
  show (if true = true then A H else B H)
  exact iteT h
theorem lc_gen {J : It} {n : Nat} {g : TG} {tt : TT} {te : TE} {vs : List Nat} {σ : L2.St} {H1 : Hp} {D : Addr} {Qd : Hp → Prop} (Pv : Nat → Hp → Prop) (h0 : Pv 0 (upd H1 D (.lst [])))
    (hg : ∀ i H, i < n → Pv i H → J.go i H) (hst : ∀ H, Pv n H → J.stop n H)
    (hs : ∀ i x H H', i < n → Pv i H → J.yld i H x H' → g x (wipe σ vs) H' fun σ2 H2 => wipe σ2 vs = wipe σ vs ∧ tt σ2 H2 fun b H3 =>
      if b = true then te σ2 H3 fun y H4 => ∃ acc, H4 D = some (.lst acc) ∧ acc.length < sizeLine ∧ Pv (i + 1) (upd H4 D (.lst (acc ++ [y]))) else Pv (i + 1) H3) (hd : ∀ H, Pv n H → Qd H) :
    ∃ W : Nat → Nat → Hp → Prop, (∃ m, W 0 m (upd H1 D (.lst []))) ∧ ∀ i m H, W i m H →
      (J.stop i H ∧ Qd H) ∨ (J.go i H ∧ ∃ Nx : Hp → Prop, (∀ H', Nx H' → ∃ m', m' < m ∧ W (i + 1) m' H') ∧ ∀ x H', J.yld i H x H' → g x (wipe σ vs) H' fun σ2 H2 => wipe σ2 vs = wipe σ vs ∧ tt σ2 H2 fun b H3 =>
        if b = true then te σ2 H3 fun y H4 => ∃ acc, H4 D = some (.lst acc) ∧ acc.length < sizeLine ∧ Nx (upd H4 D (.lst (acc ++ [y]))) else Nx H3) := by
  refine ⟨fun i m H => m = n - i ∧ i ≤ n ∧ Pv i H, ⟨n, by simp, Nat.zero_le _, h0⟩, ?_⟩
  rintro i m H ⟨rfl, hi, p⟩
  by_cases hlt : i < n
  · exact .inr ⟨hg i H hlt p, Pv (i + 1), fun H' p' => ⟨n - (i + 1), by omega, rfl, hlt, p'⟩, fun x H' y => hs i x H H' hlt p y⟩
  · have e : i = n := by omega
    subst e
    exact .inl ⟨hst H p, hd H p⟩
section
variable {X : Cx} {K : PySem.W.Frag}
theorem ix_tupK (h : X.K = K) : IxR X (rIxT K) := h ▸ ix_tup
theorem ix_listK (h : X.K = K) : IxR X (rIxL K) := h ▸ ix_list
theorem pg_tupK {es : List Expr} {k : Nat} {t : TGs} {n : Nat} {pos : Pos} (h : X.K = K) (hc : X.calm = true) (hp : PGs X es t)
    (hn : (assignEach es X.env).length = n := by rfl) (hst : (assignEach es X.env).findIdx? (fun z => z.1) = none := by rfl) : PG X (.Tuple es k pos) (gTup K n t) := by
  subst h
  exact pg_tup hc hp hn hst
theorem call_len_seqK (h : X.K = K) : CallR X (.builtin "len") (fun xs H Q => ∃ p ys, xs = [.ref p] ∧ (SqL K H p ys ∨ SqT K H p ys) ∧ Q (.int ys.length) H) := by
  subst h
  exact call_len_seq
end
theorem ix_seqK {X : Cx} {K : PySem.W.Frag} (h : X.K = K) : IxR X (rIx K) := h ▸ ix_seq
/-! ### lists that grow -/
theorem same_grow {H H4 : Hp} {D : Addr} {o : HO} (n : H D = none) (s : Same H H4) : Same H (upd H4 D o) := fun b x e => by
  rw [upd_ne (ne_of_none e n)]
  exact s b x e
theorem RunV.grow {H : Hp} {D : Addr} {acc acc' : List V} {v : V} {r : Run} (hD : H D = some (.lst acc)) (h : RunV H v r) : RunV (upd H D (.lst acc')) v r := by
  obtain ⟨t, e, h⟩ := h
  refine ⟨t, e, ?_⟩
  rw [upd_ne (ne_of h hD (by intro q; cases q))]
  exact h
theorem prs_grow {H : Hp} {D : Addr} {acc acc' : List V} {xs : List V} {rs : List Run} (hD : H D = some (.lst acc)) (h : Paired (RunV H) xs rs) : Paired (RunV (upd H D (.lst acc'))) xs rs := Paired.imp (fun _ _ => RunV.grow hD) h
theorem prs_same {H H' : Hp} {xs : List V} {rs : List Run} (s : Same H H') (h : Paired (RunV H) xs rs) : Paired (RunV H') xs rs := Paired.imp (fun _ _ => RunV.same s) h
theorem take_snoc {α : Type} {l : List α} {i : Nat} {x : α} (h : l[i]? = some x) : l.take (i + 1) = l.take i ++ [x] := by
  rw [List.take_add_one, h]
  rfl
theorem lc_wk {J : It} {H0 H1 : Hp} {xs : List V} {g : TG} {tt : TT} {te : TE} {vs : List Nat} {σ : L2.St} {D : Addr} {Qd : Hp → Prop} (wk : Wk J H0 xs) (Pv : Nat → Hp → Prop) (hsm : ∀ i H, Pv i H → Same H0 H) (h0 : Pv 0 (upd H1 D (.lst [])))
    (hs : ∀ i x H, xs[i]? = some x → Pv i H → g x (wipe σ vs) H fun σ2 H2 => wipe σ2 vs = wipe σ vs ∧ tt σ2 H2 fun b H3 =>
      if b = true then te σ2 H3 fun y H4 => ∃ acc, H4 D = some (.lst acc) ∧ acc.length < sizeLine ∧ Pv (i + 1) (upd H4 D (.lst (acc ++ [y]))) else Pv (i + 1) H3) (hd : ∀ H, Pv xs.length H → Qd H) :
    ∃ W : Nat → Nat → Hp → Prop, (∃ m, W 0 m (upd H1 D (.lst []))) ∧ ∀ i m H, W i m H →
      (J.stop i H ∧ Qd H) ∨ (J.go i H ∧ ∃ Nx : Hp → Prop, (∀ H', Nx H' → ∃ m', m' < m ∧ W (i + 1) m' H') ∧ ∀ x H', J.yld i H x H' → g x (wipe σ vs) H' fun σ2 H2 => wipe σ2 vs = wipe σ vs ∧ tt σ2 H2 fun b H3 =>
        if b = true then te σ2 H3 fun y H4 => ∃ acc, H4 D = some (.lst acc) ∧ acc.length < sizeLine ∧ Nx (upd H4 D (.lst (acc ++ [y]))) else Nx H3) := by
  refine lc_gen Pv h0 (fun i H hi p => wk.go i H (hsm i H p) hi) (fun H p => wk.stop H (hsm _ H p)) (fun i x H H' hi p y => ?_) hd
  obtain ⟨e, ex⟩ := wk.yld i x H H' (hsm i H p) y
  subst e
  exact hs i x _ ex p
theorem for_wk {J : It} {H0 H : Hp} {xs : List V} {g : TG} {tb : TS} {D : Ends} {σ : L2.St} (wk : Wk J H0 xs) (Pv : Nat → L2.St → Hp → Prop) (hsm : ∀ i σ H, Pv i σ H → Same H0 H) (h0 : Pv 0 σ H)
    (hs : ∀ i x σ H, xs[i]? = some x → Pv i σ H → g x σ H fun σ2 H2 => tb { D with nx := Pv (i + 1), ct := Pv (i + 1), bk := D.nx } σ2 H2) (hd : ∀ σ H, Pv xs.length σ H → D.nx σ H) :
    ∃ W : Nat → Nat → L2.St → Hp → Prop, (∃ m, W 0 m σ H) ∧ ∀ i m σ H, W i m σ H →
      (J.stop i H ∧ D.nx σ H) ∨ (J.go i H ∧ ∃ N : L2.St → Hp → Prop, (∀ σ' H', N σ' H' → ∃ m', m' < m ∧ W (i + 1) m' σ' H') ∧ ∀ x H', J.yld i H x H' → g x σ H' fun σ2 H2 => tb { D with nx := N, ct := N, bk := D.nx } σ2 H2) := by
  refine ⟨fun i m σ H => m = xs.length - i ∧ i ≤ xs.length ∧ Pv i σ H, ⟨xs.length, by omega, Nat.zero_le _, h0⟩, ?_⟩
  rintro i m σ H ⟨rfl, hi, p⟩
  by_cases hlt : i < xs.length
  · refine Or.inr ⟨wk.go i H (hsm i σ H p) hlt, Pv (i + 1), fun σ' H' p' => ⟨xs.length - (i + 1), by omega, rfl, hlt, p'⟩, fun x H' y => ?_⟩
    obtain ⟨e, ex⟩ := wk.yld i x H H' (hsm i σ H p) y
    subst e
    exact hs i x σ _ ex p
  · have e : i = xs.length := by omega
    subst e
    exact Or.inl ⟨wk.stop H (hsm _ σ H p), hd σ H p⟩
section
variable {P : Program} {w : World} {K : PySem.W.Frag} {mg : Str → Option Value} {base : Heap}
theorem lex1 {c d : Nat} : (!decide (([c] : List Nat) < [d])) = decide (d ≤ c) := by
  have e : (([c] : List Nat) < [d]) ↔ c < d := by
    rw [List.cons_lt_cons_iff]
    simp
  by_cases h : c < d
  · rw [decide_eq_true (e.mpr h), decide_eq_false (by omega)]
    rfl
  · rw [decide_eq_false (fun z => h (e.mp z)), decide_eq_true (by omega)]
    rfl
/-! ### what the functions say of such a value -/
def kindB (z : Str) : Bool := decide (1 ≤ (z.length : Int) ∧ (z.length : Int) ≤ 8) && z.cps.toList.all fun c => decide (97 ≤ c ∧ c ≤ 122)
def Dat.kind : Dat → Bool
  | .str z => kindB z
  | _ => false
/-- its text, if it is one, is not too long -/
def Dat.fit : Dat → Prop
  | .str z => z.length ≤ 4000
  | _ => True
def Dat.two (d : Dat) : Option (Dat × Dat) := match d.parts with
  | some [x, y] => some (x, y)
  | _ => none
def Dat.run (d : Dat) : Bool := match d.two with
  | some (x, y) => x.kind && y.inI 1 1000000000000000000000000000000
  | none => false
def Dat.pos : Dat → Bool
  | .int n => decide (1 ≤ n)
  | _ => false
def Dat.state (d : Dat) : Bool := match d with
  | .non => true
  | d => match d.two with
    | some (x, y) => x.kind && y.pos
    | none => false
def Dat.fit2 (d : Dat) : Prop := ∀ x y, d.two = some (x, y) → x.fit
theorem kitS {K : PySem.W.Frag} {H : Hp} {v : V} {d : Dat} (h : Rp H v d) (hn : ∀ z, d ≠ .str z) : ∃ t, TyX K H v t ∧ PySem.W.kitOne K t (.type "str") = some false := by
  cases h with
  | non => exact ⟨_, .base .non, kit_ty (by decide +kernel)⟩
  | bl b => exact ⟨_, .base (.bl b), kit_ty (by decide +kernel)⟩
  | int n => exact ⟨_, .base (.int n), kit_ty (by decide +kernel)⟩
  | str z => exact absurd rfl (hn z)
  | dic e => exact ⟨_, .base (.dK e), kit_ty (by decide +kernel)⟩
  | lst e _ => exact ⟨_, .base (.lst e), kit_ty (by decide +kernel)⟩
  | tup e _ => exact ⟨_, .base (.tup e), kit_ty (by decide +kernel)⟩
theorem all_map {α : Type} (l : List α) (f : α → Bool) : ((l.map f).all id) = l.all f := by
  induction l with
  | nil => rfl
  | cons x t ih => rw [List.map_cons, List.all_cons, List.all_cons, ih]; rfl
/-! is_kind: slots 0:value 1:letter -/
abbrev s_is_kind : Stmt := topS 30
theorem sc_is_kind : FnScope ["value", "letter"] ["value"] (defScope s_is_kind) := ⟨rfl, rfl, rfl, by decide +kernel, rfl, by decide +kernel, by decide +kernel⟩
def sp_is_kind : Sp := fun vs H Q _ => ∃ (v : V) (d : Dat), vs = [v] ∧ Rp H v d ∧ d.fit ∧ ∀ H', Same H H' → Q (.bl d.kind) H'
theorem ok_is_kind (D : Df K mg "is_kind" s_is_kind) (T : Tx mg) : Has P w K mg base 1 "is_kind" ["value"] sp_is_kind := by
  refine has_of D sc_is_kind (fun _ _ _ _ _ _ us hl => match us, hl with | [_], _ => rfl) (fun vs H Q E h => ?_) (fun f cdv A outer s H vs Q E hr h => ?_)
  · obtain ⟨v, d, rfl, _⟩ := h
    rfl
  · obtain ⟨v, d, rfl, hv, fit, q⟩ := h
    refine ⟨_, (pss_cons (ps_if (PW.pt (pw_or (pt_not (pt_val (pe_callB call_isi (by rfl) T.n_isinstance (by decide +kernel) (pa_cons (pv 0) (pa_cons (pe_bltn (v := .ty "str") (by rfl) T.n_str (by decide +kernel) rfl) pa_nil))))) (pw_or1 (pt_not (pt_chain op_le op_le pe_int (pe_callB call_len_str (by rfl) T.n_len (by decide +kernel) (pa_cons (pv 0) pa_nil)) (pe_glI T.c_MAX_LETTERS (by rfl))))))) (pss_one (ps_ret pe_bl)) pss_nil)
    (pss_one (ps_ret (pe_callB (cr_all rfl) (by rfl) T.n_all (by decide +kernel) (pa_cons (pe_lc (own := [("letter", 1)]) rfl sc_is_kind.nd (pi_str (pv 0)) (blkOk_by (N := ["value", "letter"]) (sc := defScope s_is_kind) (by decide +kernel)) (fun _ _ _ _ _ => (pg_name (i := 1) sc_is_kind.nd rfl (by first | exact Or.inl rfl | exact Or.inr rfl))) (fun _ _ _ _ _ => pts_nil) (fun _ _ _ _ _ => (pe_chain op_le_str op_le_str pe_str (pv 1) pe_str))) pa_nil))))), ?_⟩
    by_cases hn : ∀ z, d ≠ .str z
    · obtain ⟨t, h1, h2⟩ := kitS (K := K) hv hn
      have e : d.kind = false := by
        cases d with
        | str z => exact absurd rfl (hn z)
        | _ => rfl
      rw [e] at q
      exact ⟨_, rfl, _, _, _, _, false, rfl, .ty "str", h1, h2, false, rfl, iteT (q H (Same.refl H))⟩
    have hn : ∃ z, d = .str z := by
      apply Classical.byContradiction
      intro c
      exact hn fun z e => c ⟨z, e⟩
    obtain ⟨z, rfl⟩ := hn
    cases hv
    have fit : z.length ≤ 4000 := fit
    refine ⟨_, rfl, _, _, _, _, true, rfl, .ty "str", .base (.str z), kit_ty (by decide +kernel), true, rfl, iteF ?_⟩
    have no : ¬ (1 ≤ (z.length : Int) ∧ (z.length : Int) ≤ 8) → (Dat.str z).kind = false := fun c => by
      show (decide _ && _) = false
      rw [decide_eq_false c]
      rfl
    refine ⟨_, rfl, z, rfl, smallE (by omega), _, _, rfl, rfl, _, rfl, ?_⟩
    by_cases c1 : (1 : Int) ≤ (z.length : Int)
    · refine iteP (decide_eq_true c1) ⟨_, _, rfl, rfl, _, rfl, ?_⟩
      by_cases c2 : (z.length : Int) ≤ 8
      · refine iteN ?_ ?_
        · show (!decide ((z.length : Int) ≤ 8)) = false
          rw [decide_eq_true c2]
          rfl
        refine ⟨_, rfl, z, rfl, fun L nL => lc_gen (n := z.cps.size) (fun i H' => Same H H' ∧ H' L = some (.lst (((z.cps.toList.take i).map fun c => decide (97 ≤ c ∧ c ≤ 122)).map V.bl))) ⟨same_upd nL, upd_same⟩ (fun i H' hi _ => hi) (fun H' _ => Nat.le_refl _) (fun i x H1 H2 hi p y => ?_) (fun H' p => ?_)⟩
        · obtain ⟨rfl, c, ec, rfl⟩ := y
          obtain ⟨sm, hL⟩ := p
          have ec' : z.cps.toList[i]? = some c := by
            rw [Array.getElem?_toList]
            exact ec
          have ea : ("a" : Str).cps.toList = [97] := by decide +kernel
          have ez : ("z" : Str).cps.toList = [122] := by decide +kernel
          have lim : (((z.cps.toList.take i).map fun c => decide (97 ≤ c ∧ c ≤ 122)).map V.bl).length < sizeLine := by
            simp only [List.length_map, List.length_take]
            exact small (by have : z.cps.size = z.length := rfl; omega)
          have put : ∀ b : Bool, b = decide (97 ≤ c ∧ c ≤ 122) → Same H (upd H2 L (.lst ((((z.cps.toList.take i).map fun c => decide (97 ≤ c ∧ c ≤ 122)).map V.bl) ++ [V.bl b]))) ∧ (upd H2 L (.lst ((((z.cps.toList.take i).map fun c => decide (97 ≤ c ∧ c ≤ 122)).map V.bl) ++ [V.bl b]))) L = some (.lst (((z.cps.toList.take (i + 1)).map fun c => decide (97 ≤ c ∧ c ≤ 122)).map V.bl)) := by
            intro b hb
            refine ⟨same_grow nL sm, ?_⟩
            rw [upd_same, take_snoc ec', List.map_append, List.map_append, hb]
            rfl
          have t1 : (!decide (([c] : List Nat) < ("a" : Str).cps.toList)) = decide (97 ≤ c) := by rw [ea, lex1]
          have t2 : (!decide ((("z" : Str).cps.toList) < ([c] : List Nat))) = decide (c ≤ 122) := by rw [ez, lex1]
          refine ⟨rfl, yesT ⟨_, rfl, _, _, rfl, rfl, _, rfl, ?_⟩⟩
          by_cases b1 : 97 ≤ c
          · refine iteP (t1.trans (decide_eq_true b1)) ⟨_, _, rfl, rfl, _, hL, lim, put _ ?_⟩
            exact t2.trans (decide_eq_decide.mpr ⟨fun z => ⟨b1, z⟩, fun z => z.2⟩)
          · refine iteN (t1.trans (decide_eq_false b1)) ⟨_, hL, lim, put _ ?_⟩
            exact (decide_eq_false (p := 97 ≤ c ∧ c ≤ 122) (fun z => b1 z.1)).symm
        · refine ⟨L, _, rfl, .of p.2, ?_⟩
          have e : (((z.cps.toList.take z.cps.size).map fun c => decide (97 ≤ c ∧ c ≤ 122)).all id) = (Dat.str z).kind := by
            rw [all_map, List.take_of_length_le (by rw [Array.length_toList]; exact Nat.le_refl _)]
            show _ = (decide _ && _)
            rw [decide_eq_true ⟨c1, c2⟩]
            rfl
          rw [e]
          exact q H' p.1
      · refine iteP ?_ ?_
        · show (!decide ((z.length : Int) ≤ 8)) = true
          rw [decide_eq_false c2]
          rfl
        rw [no fun k => c2 k.2] at q
        exact q H (Same.refl H)
    · rw [no fun k => c1 k.1] at q
      exact iteN (decide_eq_false c1) ⟨_, rfl, iteT (q H (Same.refl H))⟩
theorem at0 {α : Type} {x y : α} : atI [x, y] 0 = some x := rfl
theorem at1 {α : Type} {x y : α} : atI [x, y] 1 = some y := rfl
theorem ix0 {K : PySem.W.Frag} {H : Hp} {t : Addr} {x y : V} {Q : VK} (h : Sq2 H t [x, y]) (q : Q x H) : rIx K (.ref t) (.int 0) H Q := h.elim (fun z => .inl ⟨t, _, 0, _, rfl, rfl, .of z, at0, q⟩) (fun z => .inr (.inl ⟨t, _, 0, _, rfl, rfl, .of z, at0, q⟩))
theorem ix1 {K : PySem.W.Frag} {H : Hp} {t : Addr} {x y : V} {Q : VK} (h : Sq2 H t [x, y]) (q : Q y H) : rIx K (.ref t) (.int 1) H Q := h.elim (fun z => .inl ⟨t, _, 1, _, rfl, rfl, .of z, at1, q⟩) (fun z => .inr (.inl ⟨t, _, 1, _, rfl, rfl, .of z, at1, q⟩))
theorem Rp.two {H : Hp} {v : V} {d x y : Dat} (h : Rp H v d) (e : d.two = some (x, y)) : ∃ a vx vy, v = .ref a ∧ Sq2 H a [vx, vy] ∧ Rp H vx x ∧ Rp H vy y := by
  cases hp : d.parts with
  | none =>
    unfold Dat.two at e
    rw [hp] at e
    cases e
  | some l =>
    obtain ⟨a, xs, rfl, hx, hq⟩ := h.seq hp
    unfold Dat.two at e
    rw [hp] at e
    cases hq with
    | nil => cases e
    | cons h1 t1 =>
      cases t1 with
      | nil => cases e
      | cons h2 t2 =>
        cases t2 with
        | nil =>
          cases e
          exact ⟨a, _, _, rfl, hx, h1, h2⟩
        | cons h3 t3 => cases e
theorem couple_two {d : Dat} : d.couple = d.two.isSome := by
  unfold Dat.couple Dat.two
  cases d.parts with
  | none => rfl
  | some l =>
    match l with
    | [] => rfl
    | [x] => rfl
    | [x, y] => rfl
    | x :: y :: z :: t =>
      show decide ((x :: y :: z :: t).length = 2) = false
      exact decide_eq_false (by simp only [List.length_cons]; omega)
/-! is_run: slots 0:value -/
abbrev s_is_run : Stmt := topS 31
theorem sc_is_run : FnScope ["value"] ["value"] (defScope s_is_run) := ⟨rfl, rfl, rfl, by decide +kernel, rfl, by decide +kernel, by decide +kernel⟩
def sp_is_run : Sp := fun vs H Q _ => ∃ (v : V) (d : Dat), vs = [v] ∧ Rp H v d ∧ d.fit2 ∧ ∀ H', Same H H' → Q (.bl d.run) H'
theorem ok_is_run (D : Df K mg "is_run" s_is_run) (T : Tx mg) (G_is_couple : Has P w K mg base 1 "is_couple" ["value"] sp_is_couple) (G_is_kind : Has P w K mg base 1 "is_kind" ["value"] sp_is_kind) (G_is_within : Has P w K mg base 2 "is_within" ["value", "low", "high"] sp_is_within) :
    Has P w K mg base 3 "is_run" ["value"] sp_is_run := by
  refine has_of D sc_is_run (fun _ _ _ _ _ _ us hl => match us, hl with | [_], _ => rfl) (fun vs H Q E h => ?_) (fun f cdv A outer s H vs Q E hr h => ?_)
  · obtain ⟨v, d, rfl, _⟩ := h
    rfl
  · obtain ⟨v, d, rfl, hv, fit, q⟩ := h
    refine ⟨_, (pss_one (ps_ret (pe_and (pe_callH G_is_couple (hr.mono (by omega)) (by rfl) (pa_cons (pv 0) pa_nil)) (pe_and (pe_callH G_is_kind (hr.mono (by omega)) (by rfl) (pa_cons (pe_ix ix_seq (pv 0) pe_int (fun _ _ => rfl)) pa_nil)) (pe_one (pe_callH G_is_within (hr.mono (by omega)) (by rfl) (pa_cons (pe_ix ix_seq (pv 0) pe_int (fun _ _ => rfl)) (pa_cons pe_int (pa_cons (pe_glI T.c_MAX_COUNT (by rfl)) pa_nil))))))))), ?_⟩
    refine ⟨_, rfl, v, d, rfl, hv, fun H1 s1 => ⟨d.couple, rfl, ?_⟩⟩
    cases ht : d.two with
    | none =>
      have e1 : d.couple = false := by rw [couple_two, ht]; rfl
      have e2 : d.run = false := by unfold Dat.run; rw [ht]
      rw [e2] at q
      refine iteN e1 ?_
      exact q _ s1
    | some p =>
      obtain ⟨x, y⟩ := p
      have e1 : d.couple = true := by rw [couple_two, ht]; rfl
      have e2 : d.run = (x.kind && y.inI 1 1000000000000000000000000000000) := by unfold Dat.run; rw [ht]
      rw [e2] at q
      obtain ⟨a, vx, vy, rfl, hs, hx, hy⟩ := hv.two ht
      refine iteP e1 ?_
      refine ⟨_, rfl, ix0 (hs.same s1) ⟨vx, x, rfl, hx.same s1, fit x y ht, fun H2 s2 => ⟨x.kind, rfl, ?_⟩⟩⟩
      by_cases ck : x.kind = true
      · refine iteP ck ?_
        rw [ck] at q
        refine ⟨_, rfl, ix1 ((hs.same s1).same s2) ⟨vy, y, 1, _, rfl, hy.same (s1.trans s2), q _ (s1.trans s2)⟩⟩
      · have ck : x.kind = false := by simpa using ck
        refine iteN ck ?_
        rw [ck] at q
        exact q _ (s1.trans s2)
/-! is_state: slots 0:value -/
abbrev s_is_state : Stmt := topS 33
theorem sc_is_state : FnScope ["value"] ["value"] (defScope s_is_state) := ⟨rfl, rfl, rfl, by decide +kernel, rfl, by decide +kernel, by decide +kernel⟩
def sp_is_state : Sp := fun vs H Q _ => ∃ (v : V) (d : Dat), vs = [v] ∧ Rp H v d ∧ d.fit2 ∧ ∀ H', Same H H' → Q (.bl d.state) H'
theorem ok_is_state (D : Df K mg "is_state" s_is_state) (T : Tx mg) (G_is_couple : Has P w K mg base 1 "is_couple" ["value"] sp_is_couple) (G_is_kind : Has P w K mg base 1 "is_kind" ["value"] sp_is_kind) (G_is_whole : Has P w K mg base 1 "is_whole" ["value"] sp_is_whole) :
    Has P w K mg base 2 "is_state" ["value"] sp_is_state := by
  refine has_of D sc_is_state (fun _ _ _ _ _ _ us hl => match us, hl with | [_], _ => rfl) (fun vs H Q E h => ?_) (fun f cdv A outer s H vs Q E hr h => ?_)
  · obtain ⟨v, d, rfl, _⟩ := h
    rfl
  · obtain ⟨v, d, rfl, hv, fit, q⟩ := h
    refine ⟨_, (pss_cons (ps_if (pt_cmpR op_isN (pv 0) pe_non (nomark _)) (pss_one (ps_ret pe_bl)) pss_nil)
    (pss_one (ps_ret (pe_and (pe_callH G_is_couple (hr.mono (by omega)) (by rfl) (pa_cons (pv 0) pa_nil)) (pe_and (pe_callH G_is_kind (hr.mono (by omega)) (by rfl) (pa_cons (pe_ix ix_seq (pv 0) pe_int (fun _ _ => rfl)) pa_nil)) (pe_and (pe_callH G_is_whole (hr.mono (by omega)) (by rfl) (pa_cons (pe_ix ix_seq (pv 0) pe_int (fun _ _ => rfl)) pa_nil)) (pe_one (pe_cmpR op_ge (pe_ix ix_seq (pv 0) pe_int (fun _ _ => rfl)) pe_int (nomark _))))))))), ?_⟩
    by_cases dn : d = .non
    · subst dn
      cases hv
      exact ⟨_, rfl, rfl, _, rfl, iteP rfl (q H (Same.refl H))⟩
    have vn : decide (v = V.non) = false := by
      refine decide_eq_false fun z => dn ?_
      subst z
      cases hv
      rfl
    have e0 : d.state = match d.two with
      | some (x, y) => x.kind && y.pos
      | none => false := by
      cases d with
      | non => exact absurd rfl dn
      | _ => rfl
    refine ⟨_, rfl, rfl, _, rfl, iteN vn ?_⟩
    refine ⟨_, rfl, v, d, rfl, hv, fun H1 s1 => ⟨d.couple, rfl, ?_⟩⟩
    cases ht : d.two with
    | none =>
      have e1 : d.couple = false := by rw [couple_two, ht]; rfl
      rw [e0, ht] at q
      refine iteN e1 ?_
      exact q _ s1
    | some p =>
      obtain ⟨x, y⟩ := p
      have e1 : d.couple = true := by rw [couple_two, ht]; rfl
      rw [e0, ht] at q
      obtain ⟨a, vx, vy, rfl, hs, hx, hy⟩ := hv.two ht
      refine iteP e1 ?_
      refine ⟨_, rfl, ix0 (hs.same s1) ⟨vx, x, rfl, hx.same s1, fit x y ht, fun H2 s2 => ⟨x.kind, rfl, ?_⟩⟩⟩
      have s12 := s1.trans s2
      by_cases ck : x.kind = true
      · refine iteP ck ?_
        refine ⟨_, rfl, ix1 ((hs.same s1).same s2) ⟨vy, y, rfl, hy.same s12, y.isI, rfl, ?_⟩⟩
        have q := q _ s12
        rw [show (match some (x, y) with | some (x, y) => x.kind && y.pos | none => false) = y.pos by show (x.kind && y.pos) = y.pos; rw [ck]; rfl] at q
        by_cases ci : y.isI = true
        · refine iteP ci ?_
          cases hy with
          | int n =>
            exact ⟨_, rfl, ix1 ((hs.same s1).same s2) ⟨_, _, rfl, rfl, q⟩⟩
          | _ => cases ci
        · have ci : y.isI = false := by simpa using ci
          refine iteN ci ?_
          rw [show y.pos = false by cases y with | int n => cases ci | _ => rfl] at q
          exact q
      · have ck : x.kind = false := by simpa using ck
        refine iteN ck ?_
        have q := q _ s12
        rw [show (match some (x, y) with | some (x, y) => x.kind && y.pos | none => false) = false by show (x.kind && y.pos) = false; rw [ck]; rfl] at q
        exact q
end
end UP

set_option Elab.async false
set_option linter.all false
set_option maxRecDepth 100000
set_option maxHeartbeats 4000000
namespace UP
open PySem PySem.Spec PyProof.Rows L2
/-- the kind of a run -/
def Dat.key (d : Dat) : Str := match d.two with
  | some (.str z, _) => z
  | _ => ""
def keyAt (l : List Dat) (i : Nat) : Str := match l[i]? with
  | some d => d.key
  | none => ""
def stepB (l : List Dat) (i : Nat) : Bool := !decide (V.str (keyAt l i) = V.str (keyAt l (i + 1)))
def Dat.seq (d : Dat) : Bool := match d.parts with
  | some l => decide ((l.length : Int) ≤ 400) && (l.all Dat.run && ((List.range (l.length - 1)).map (stepB l)).all id)
  | none => false
def Dat.fits (d : Dat) : Prop := ∀ l, d.parts = some l → l.length ≤ 100000 ∧ ∀ x ∈ l, x.fit2
theorem run_two {d : Dat} (h : d.run = true) : ∃ z y, d.two = some (.str z, y) ∧ d.key = z := by
  unfold Dat.run at h
  cases ht : d.two with
  | none => rw [ht] at h; cases h
  | some p =>
    obtain ⟨x, y⟩ := p
    rw [ht] at h
    have h : (x.kind && y.inI 1 1000000000000000000000000000000) = true := h
    cases x with
    | str z => exact ⟨z, y, rfl, by unfold Dat.key; rw [ht]⟩
    | _ => cases h
theorem range_snoc {α : Type} (f : Nat → α) (i : Nat) : (List.range (i + 1)).map f = (List.range i).map f ++ [f i] := by
  rw [List.range_succ, List.map_append]
  rfl
section
variable {P : Program} {w : World} {K : PySem.W.Frag} {mg : Str → Option Value} {base : Heap}
/-! is_sequence: slots 0:value 1:run 2:following -/
abbrev s_is_sequence : Stmt := topS 32
theorem sc_is_sequence : FnScope ["value", "run", "following"] ["value"] (defScope s_is_sequence) := ⟨rfl, rfl, rfl, by decide +kernel, rfl, by decide +kernel, by decide +kernel⟩
def sp_is_sequence : Sp := fun vs H Q _ => ∃ (v : V) (d : Dat), vs = [v] ∧ Rp H v d ∧ d.fits ∧ ∀ H', Same H H' → Q (.bl d.seq) H'
theorem ok_is_sequence (D : Df K mg "is_sequence" s_is_sequence) (T : Tx mg) (G_is_listed : Has P w K mg base 1 "is_listed" ["value", "most"] sp_is_listed) (G_is_run : Has P w K mg base 3 "is_run" ["value"] sp_is_run) :
    Has P w K mg base 4 "is_sequence" ["value"] sp_is_sequence := by
  refine has_of D sc_is_sequence (fun _ _ _ _ _ _ us hl => match us, hl with | [_], _ => rfl) (fun vs H Q E h => ?_) (fun f cdv A outer s H vs Q E hr h => ?_)
  · obtain ⟨v, r, rfl, _⟩ := h
    rfl
  · obtain ⟨v, d, rfl, hv, fit, q⟩ := h
    refine ⟨_, (pss_cons (ps_if (PW.pt (pw_or (pt_not (pt_val (pe_callH G_is_listed (hr.mono (by omega)) (by rfl) (pa_cons (pv 0) (pa_cons (pe_glI T.c_MAX_RUNS (by rfl)) pa_nil))))) (pw_or1 (pt_not (pt_val (pe_callB (cr_all rfl) (by rfl) T.n_all (by decide +kernel) (pa_cons (pe_lc (own := [("run", 1)]) rfl sc_is_sequence.nd (pi_seqV 0) (blkOk_by (N := ["value", "run", "following"]) (sc := defScope s_is_sequence) (by decide +kernel)) (fun _ _ _ _ _ => (pg_name (i := 1) sc_is_sequence.nd rfl (by first | exact Or.inl rfl | exact Or.inr rfl))) (fun _ _ _ _ _ => pts_nil) (fun _ _ _ _ _ => (pe_callH G_is_run (hr.mono (by omega)) (by rfl) (pa_cons (pv 1) pa_nil)))) pa_nil))))))) (pss_one (ps_ret pe_bl)) pss_nil)
    (pss_one (ps_ret (pe_callB (cr_all rfl) (by rfl) T.n_all (by decide +kernel) (pa_cons (pe_lc (own := [("run", 1), ("following", 2)]) rfl sc_is_sequence.nd (pi_zip1 (i := 0) (RZ.pi_zipA (by rfl) T.n_zip (pa_cons (pv 0) (pa_cons (pe_slice (SlR.or sl_list sl_tupA) (pv 0) (po_some pe_int) po_none) pa_nil))) (fun _ _ _ q => ⟨1, rfl, q⟩) (fun _ _ _ q => q)) (blkOk_by (N := ["value", "run", "following"]) (sc := defScope s_is_sequence) (by decide +kernel)) (fun _ _ _ _ _ => (pg_tupK (K := K) (n := 2) rfl rfl (pgs_cons (pg_name (i := 1) sc_is_sequence.nd rfl (by first | exact Or.inl rfl | exact Or.inr rfl)) (pgs_cons (pg_name (i := 2) sc_is_sequence.nd rfl (by first | exact Or.inl rfl | exact Or.inr rfl)) pgs_nil)))) (fun _ _ _ _ _ => pts_nil) (fun _ _ _ _ _ => (pe_cmpR op_ne (pe_ix (ix_seqK (K := K) rfl) (pv 1) pe_int (fun _ _ => rfl)) (pe_ix (ix_seqK (K := K) rfl) (pv 2) pe_int (fun _ _ => rfl)) (nomark _)))) pa_nil))))), ?_⟩
    refine ⟨_, rfl, v, d, 400, rfl, hv, fun H1 s1 => ⟨_, rfl, ?_⟩⟩
    by_cases cl : d.listed 400 = true
    · refine iteN (by rw [cl]; rfl) ?_
      obtain ⟨l, hd⟩ : ∃ l, d.parts = some l := by
        cases hp : d.parts with
        | some l => exact ⟨l, rfl⟩
        | none =>
          unfold Dat.listed at cl
          rw [hp] at cl
          cases cl
      obtain ⟨a, xs, rfl, hx, hp⟩ := hv.seq hd
      have lx : xs.length = l.length := Paired.len hp
      obtain ⟨l5, fit⟩ := fit l hd
      have l4 : (l.length : Int) ≤ 400 := by
        unfold Dat.listed at cl
        rw [hd] at cl
        exact of_decide_eq_true cl
      have e0 : d.seq = (l.all Dat.run && ((List.range (l.length - 1)).map (stepB l)).all id) := by
        unfold Dat.seq
        rw [hd]
        show (decide _ && _) = _
        rw [decide_eq_true l4]
        rfl
      rw [e0] at q
      refine ⟨a, xs, rfl, hx.same s1, fun J wk L nL => lc_wk wk (fun i H' => Same H1 H' ∧ H' L = some (.lst (((l.take i).map Dat.run).map V.bl))) (fun _ _ p => p.1) ⟨same_upd nL, upd_same⟩ (fun i x H2 ex p => ?_) (fun H2 p => ?_)⟩
      · obtain ⟨sm, hL⟩ := p
        obtain ⟨r, er, hr1⟩ := Paired.at hp ex
        have hi : i < xs.length := (List.getElem?_eq_some_iff.mp ex).1
        refine ⟨rfl, yesT ⟨_, rfl, x, r, rfl, hr1.same (s1.trans sm), fit r (List.mem_of_getElem? er), fun H3 s3 => ⟨_, s3 _ _ hL, ?_, same_grow nL (sm.trans s3), ?_⟩⟩⟩
        · simp only [List.length_map, List.length_take]
          exact small (by omega)
        · rw [upd_same, take_snoc er, List.map_append, List.map_append]
          rfl
      · rw [lx, List.take_length] at p
        refine ⟨L, _, rfl, .of p.2, _, rfl, ?_⟩
        rw [all_map]
        have s2 : Same H H2 := s1.trans p.1
        by_cases ca : l.all Dat.run = true
        · rw [ca] at q
          refine iteN (by rw [ca]; rfl) ?_
          have rok : ∀ (i : Nat) (x : Dat), l[i]? = some x → x.run = true := fun i x h => List.all_eq_true.mp ca x (List.mem_of_getElem? h)
          refine ⟨a, xs, rfl, hx.same s2, fun J Hc sc wk M nM => ?_⟩
          have sA : Same H Hc := s2.trans sc
          refine lc_gen (n := xs.length - 1) (fun i H' => Same Hc H' ∧ H' M = some (.lst (((List.range i).map (stepB l)).map V.bl))) ⟨same_upd nM, upd_same⟩ (fun i H' hi p => wk.go i H' p.1 (by omega)) (fun H' p => wk.stop H' p.1) (fun i x H3 H4 hi p y => ?_) (fun H' p => ?_)
          · obtain ⟨T', x1, x2, rfl, nT, rfl, g1, g2⟩ := wk.yld i x H3 H4 p.1 y
            obtain ⟨sm, hM⟩ := p
            have g2 := g2 (by omega)
            have sB : Same H H3 := sA.trans sm
            obtain ⟨r1, e1, v1⟩ := Paired.at hp g1
            obtain ⟨r2, e2, v2⟩ := Paired.at hp g2
            obtain ⟨z1, y1, t1, k1⟩ := run_two (rok _ _ e1)
            obtain ⟨z2, y2, t2, k2⟩ := run_two (rok _ _ e2)
            obtain ⟨a1, u1, u1', rfl, w1, m1, _⟩ := (v1.same (sB.trans (same_upd (o := .tup [x1, x2]) nT))).two t1
            obtain ⟨a2, u2, u2', rfl, w2, m2, _⟩ := (v2.same (sB.trans (same_upd (o := .tup [_, x2]) nT))).two t2
            cases m1
            cases m2
            refine ⟨T', _, rfl, .of upd_same, rfl, _, _, rfl, _, _, rfl, rfl, rfl, yesT ?_⟩
            refine ⟨_, rfl, ix0 w1 ⟨_, rfl, ix0 w2 ⟨rfl, _, same_upd nT _ _ hM, ?_, same_grow nM (sm.trans (same_upd nT)), ?_⟩⟩⟩
            · simp only [List.length_map, List.length_range]
              exact small (by omega)
            · rw [upd_same, range_snoc, List.map_append]
              have eb : stepB l i = !decide (V.str z1 = V.str z2) := by
                unfold stepB keyAt
                rw [e1, e2]
                show (!decide (V.str r1.key = V.str r2.key)) = _
                rw [k1, k2]
              rw [← eb]
              rfl
          · refine ⟨M, _, rfl, .of p.2, ?_⟩
            rw [lx]
            exact q _ (sA.trans p.1)
        · have ca : l.all Dat.run = false := by simpa using ca
          rw [ca] at q
          exact iteP (by rw [ca]; rfl) (q _ s2)
    · have cl : d.listed 400 = false := by simpa using cl
      have e0 : d.seq = false := by
        unfold Dat.listed at cl
        unfold Dat.seq
        cases hp : d.parts with
        | none => rfl
        | some l =>
          rw [hp] at cl
          have cl : decide ((l.length : Int) ≤ 400) = false := cl
          show (decide _ && _) = false
          rw [cl]
          rfl
      rw [e0] at q
      exact iteP (by rw [cl]; rfl) (q _ s1)
end
end UP

set_option Elab.async false
set_option linter.all false
set_option maxRecDepth 100000
set_option maxHeartbeats 4000000
namespace UP
open PySem PySem.Spec PyProof.Rows L2
/-! ### functions that may raise -/
section
variable (P : Program) (w : World) (K : PySem.W.Frag) (mg : Str → Option Value) (base : Heap)
def HasX (k : Nat) (x : Str) (ps : List Str) (sp : Sp) : Prop :=
  ∃ f fd, mg x = some (.ref f) ∧ PySem.W.keepIn K (.ref f) = true ∧ Binds K fd ps [] ∧ FnOk P w K mg base (L2.CX P w) k f fd ps sp
end
/-- the class x of errors stands at C -/
structure Ex (K : PySem.W.Frag) (mg : Str → Option Value) (x : Str) (C : Addr) : Prop where
  g : mg x = some (.ref C)
  x : PySem.W.excIn K C [.type "ValueError", .type "Exception", .type "BaseException", .type "object"] "ValueError.__new__" = true
  k : PySem.W.keepIn K (.ref C) = true
  b : PySem.W.subIn K (.ref C) (.type "BaseException") = some true
  t : PySem.W.typeIn K (.ref C) = some (.type "type")
/-! ### values that are runs, sequences, states -/
def Dat.rr (d : Dat) : Run := match d.two with
  | some (.str z, .int n) => (z, n)
  | _ => ("", 0)
def Dat.stt (d : Dat) : Option Run := match d with
  | .non => none
  | d => some d.rr
def Dat.runs (d : Dat) : List Run := match d.parts with
  | some l => l.map Dat.rr
  | none => []
theorem kind_ok {z : Str} (h : kindB z = true) : KindOk z := by
  unfold kindB at h
  have h := Bool.and_eq_true_iff.mp h
  have h1 := of_decide_eq_true h.1
  refine ⟨by omega, by omega, fun c hc => ?_⟩
  exact of_decide_eq_true (List.all_eq_true.mp h.2 c hc)
theorem run_str {d : Dat} (h : d.run = true) : ∃ z n, d.two = some (.str z, .int n) ∧ d.rr = (z, n) ∧ d.key = z ∧ KindOk z ∧ 1 ≤ n ∧ n ≤ 1000000000000000000000000000000 := by
  obtain ⟨z, y, ht, hk⟩ := run_two h
  unfold Dat.run at h
  rw [ht] at h
  have h := Bool.and_eq_true_iff.mp (show (kindB z && y.inI 1 1000000000000000000000000000000) = true from h)
  cases y with
  | int n =>
    have h2 : 1 ≤ n ∧ n ≤ 1000000000000000000000000000000 := of_decide_eq_true h.2
    exact ⟨z, n, ht, by unfold Dat.rr; rw [ht], hk, kind_ok h.1, h2.1, h2.2⟩
  | _ => cases h.2
theorem run_rp {H : Hp} {v : V} {d : Dat} (hv : Rp H v d) (h : d.run = true) : RunG H v d.rr ∧ RunOk d.rr := by
  obtain ⟨z, n, ht, hr, _, k, n1, n2⟩ := run_str h
  obtain ⟨a, vx, vy, rfl, hs, hx, hy⟩ := hv.two ht
  cases hx
  cases hy
  rw [hr]
  exact ⟨⟨a, rfl, hs⟩, k, n1, n2⟩
theorem seq_rp {H : Hp} {v : V} {d : Dat} (hv : Rp H v d) (h : d.seq = true) : RunsG H v d.runs ∧ SeqOk d.runs := by
  cases hd : d.parts with
  | none =>
    unfold Dat.seq at h
    rw [hd] at h
    cases h
  | some l =>
    unfold Dat.seq at h
    rw [hd] at h
    have h := Bool.and_eq_true_iff.mp (show (decide ((l.length : Int) ≤ 400) && (l.all Dat.run && ((List.range (l.length - 1)).map (stepB l)).all id)) = true from h)
    have h1 := of_decide_eq_true h.1
    have h2 := Bool.and_eq_true_iff.mp h.2
    have er : d.runs = l.map Dat.rr := by unfold Dat.runs; rw [hd]
    rw [er]
    obtain ⟨a, xs, rfl, hx, hp⟩ := hv.seq hd
    have ra : ∀ x ∈ l, x.run = true := fun x hx => List.all_eq_true.mp h2.1 x hx
    have pair : ∀ {xs : List V} {l : List Dat}, Paired (Rp H) xs l → (∀ x ∈ l, x.run = true) → Paired (RunG H) xs (l.map Dat.rr) := by
      intro xs l hp
      induction hp with
      | nil => intro _; exact .nil
      | cons h _ ih =>
        intro k
        exact .cons (run_rp h (k _ (List.mem_cons_self ..))).1 (ih fun x hx => k x (List.mem_cons_of_mem _ hx))
    refine ⟨⟨a, xs, rfl, hx, pair hp ra⟩, by rw [List.length_map]; omega, fun r hr => ?_, fun i x y ex ey => ?_⟩
    · obtain ⟨e, he, rfl⟩ := List.mem_map.mp hr
      obtain ⟨z, n, _, hr, _, k, n1, n2⟩ := run_str (ra e he)
      rw [hr]
      exact ⟨k, n1, n2⟩
    · rw [List.getElem?_map] at ex ey
      cases e1 : l[i]? with
      | none => rw [e1] at ex; cases ex
      | some p =>
        cases e2 : l[i + 1]? with
        | none => rw [e2] at ey; cases ey
        | some p2 =>
          rw [e1] at ex
          rw [e2] at ey
          cases ex
          cases ey
          have hi : i < l.length - 1 := by
            have := (List.getElem?_eq_some_iff.mp e2).1
            omega
          have st := List.all_eq_true.mp h2.2 (stepB l i) (List.mem_map.mpr ⟨i, List.mem_range.mpr hi, rfl⟩)
          obtain ⟨z1, n1, _, r1, k1, _⟩ := run_str (ra p (List.mem_of_getElem? e1))
          obtain ⟨z2, n2, _, r2, k2, _⟩ := run_str (ra p2 (List.mem_of_getElem? e2))
          unfold stepB keyAt at st
          rw [e1, e2] at st
          have st : (!decide (V.str p.key = V.str p2.key)) = true := st
          rw [k1, k2] at st
          rw [r1, r2]
          intro z
          have z : z1 = z2 := z
          rw [z, decide_eq_true rfl] at st
          cases st
theorem state_rp {H : Hp} {v : V} {d : Dat} (hv : Rp H v d) (h : d.state = true) : StG H v d.stt ∧ ∀ r, d.stt = some r → KindOk r.1 ∧ 1 ≤ r.2 := by
  by_cases dn : d = .non
  · subst dn
    cases hv
    exact ⟨rfl, fun r hr => by cases hr⟩
  have e0 : d.state = match d.two with
    | some (x, y) => x.kind && y.pos
    | none => false := by
    cases d with
    | non => exact absurd rfl dn
    | _ => rfl
  have e1 : d.stt = some d.rr := by
    cases d with
    | non => exact absurd rfl dn
    | _ => rfl
  rw [e0] at h
  rw [e1]
  cases ht : d.two with
  | none => rw [ht] at h; cases h
  | some p =>
    obtain ⟨x, y⟩ := p
    rw [ht] at h
    have h := Bool.and_eq_true_iff.mp (show (x.kind && y.pos) = true from h)
    obtain ⟨a, vx, vy, rfl, hs, hx, hy⟩ := hv.two ht
    cases hx with
    | str z =>
      cases hy with
      | int n =>
        have er : d.rr = (z, n) := by unfold Dat.rr; rw [ht]
        rw [er]
        exact ⟨⟨a, rfl, hs⟩, fun r hr => by cases hr; exact ⟨kind_ok h.1, of_decide_eq_true h.2⟩⟩
      | _ => cases h.2
    | _ => cases h.1
section
variable {P : Program} {w : World} {K : PySem.W.Frag} {mg : Str → Option Value} {base : Heap}
theorem hasX_of {x : Str} {st : Stmt} {ps N : List Str} {k : Nat} {sp : Sp} (D : Df K mg x st) (S : FnScope N ps (defScope st))
    (hb : ∀ (kV doc pm : Value) (an : Option Addr) (cdv ct : Value) (us : List Value), us.length = ps.length → bindArgs (PySem.W.fnOf x x (defArgs st) (defBody st) (defScope st) .none kV doc pm an cdv ct) ⟨us, []⟩ = pure (ps.zip us))
    (len : ∀ vs H Q E, sp vs H Q E → vs.length = ps.length)
    (body : ∀ (f : Addr) (cdv : Value) (A : Around) (outer : List Env) (s : Shared) (H : Hp) (vs : List V) (Q : VK) (E : XK), Room k (A.deeper (envOfC x (defScope st) s.heap.objs.size f cdv)) → sp vs H Q E →
      ∃ t, PSs (cxOf (L2.CX P w) P w K mg base N x (defScope st) f cdv A outer s H E) (defBody st) t ∧ t { nx := fun _ H' => Q .non H', rt := Q } (start N vs) H) :
    HasX P w K mg base (k + 1) x ps sp := by
  obtain ⟨f, fd, g, F⟩ := D
  exact ⟨f, fd, g, F.kp, F.binds hb, F.okX S len fun cdv A outer s H vs Q E hr h => body f cdv A outer s H vs Q E hr h⟩
/-! checked_state: slots 0:state -/
abbrev s_checked_state : Stmt := topS 36
theorem sc_checked_state : FnScope ["state"] ["state"] (defScope s_checked_state) := ⟨rfl, rfl, rfl, by decide +kernel, rfl, by decide +kernel, by decide +kernel⟩
def sp_checked_state (C : Addr) : Sp := fun vs H Q E => ∃ (v : V) (d : Dat), vs = [v] ∧ Rp H v d ∧ d.fit2 ∧ (d.state = true → ∀ H' v', Same H H' → StV H' v' d.stt → Q v' H') ∧ (d.state = false → ∀ H', Same H H' → E (.ref C) none H')
theorem ok_checked_state {C : Addr} (D : Df K mg "checked_state" s_checked_state) (T : Tx mg) (X1 : Ex K mg "InvalidState" C) (G_is_state : Has P w K mg base 2 "is_state" ["value"] sp_is_state) : HasX P w K mg base 3 "checked_state" ["state"] (sp_checked_state C) := by
  refine hasX_of D sc_checked_state (fun _ _ _ _ _ _ us hl => match us, hl with | [_], _ => rfl) (fun vs H Q E h => ?_) (fun f cdv A outer s H vs Q E hr h => ?_)
  · obtain ⟨v, r, rfl, _⟩ := h
    rfl
  · obtain ⟨v, d, rfl, hv, fit, q, qe⟩ := h
    refine ⟨_, (pss_cons (ps_if (pt_not (pt_val (pe_callH G_is_state (hr.mono (by omega)) (by rfl) (pa_cons (pv 0) pa_nil)))) (pss_one (ps_raise rfl (takes_of rfl rfl rfl rfl) (pmk_own PySem.F.excBase_ValueError X1.x X1.g X1.k (raises_own X1.b X1.t) (by exact rfl)))) pss_nil)
    (pss_one (ps_ret (pe_ifExp (pt_cmpR op_isN (pv 0) pe_non (nomark _)) pe_non (pe_callTy call_tuple_of (by rfl) T.n_tuple (by decide +kernel) (pa_cons (pv 0) pa_nil)))))), ?_⟩
    refine ⟨_, rfl, v, d, rfl, hv, fit, fun H1 s1 => ⟨_, rfl, ?_⟩⟩
    by_cases cs : d.state = true
    · refine iteN (by rw [cs]; rfl) ?_
      have hv1 := hv.same s1
      obtain ⟨hg, _⟩ := state_rp hv1 cs
      have q := q cs
      cases hst : d.stt with
      | none =>
        rw [hst] at hg q
        have hg : v = .non := hg
        subst hg
        exact ⟨_, rfl, rfl, _, rfl, iteP rfl (q H1 _ s1 rfl)⟩
      | some r =>
        rw [hst] at hg q
        obtain ⟨t, rfl, ht⟩ := hg
        refine ⟨_, rfl, rfl, _, rfl, iteN rfl ⟨_, rfl, t, [.str r.1, .int r.2], rfl, ?_⟩⟩
        rcases ht with z | z
        · exact .inl ⟨.of z, fun l nl => q _ _ (s1.trans (same_upd nl)) ⟨l, rfl, upd_same⟩⟩
        · exact .inr ⟨.of z, q H1 _ s1 ⟨t, rfl, z⟩⟩
    · have cs : d.state = false := by simpa using cs
      exact iteP (by rw [cs]; rfl) (qe cs _ s1)
end
end UP

set_option Elab.async false
set_option linter.all false
set_option maxRecDepth 100000
set_option maxHeartbeats 4000000
namespace UP
open PySem PySem.Spec PyProof.Rows L2
section
variable {P : Program} {w : World} {K : PySem.W.Frag} {mg : Str → Option Value} {base : Heap}
/-! checked_runs: slots 0:sequence 1:kind 2:count -/
abbrev s_checked_runs : Stmt := topS 34
theorem sc_checked_runs : FnScope ["sequence", "kind", "count"] ["sequence"] (defScope s_checked_runs) := ⟨rfl, rfl, rfl, by decide +kernel, rfl, by decide +kernel, by decide +kernel⟩
def sp_checked_runs (C : Addr) : Sp := fun vs H Q E => ∃ (v : V) (d : Dat), vs = [v] ∧ Rp H v d ∧ d.fits ∧ (d.seq = true → ∀ H' p, Same H H' → H p = none → Runs H' p d.runs → Q (.ref p) H') ∧ (d.seq = false → ∀ H', Same H H' → E (.ref C) none H')
theorem ok_checked_runs {C : Addr} (D : Df K mg "checked_runs" s_checked_runs) (T : Tx mg) (X1 : Ex K mg "InvalidSequence" C) (G_is_sequence : Has P w K mg base 4 "is_sequence" ["value"] sp_is_sequence) :
    HasX P w K mg base 5 "checked_runs" ["sequence"] (sp_checked_runs C) := by
  refine hasX_of D sc_checked_runs (fun _ _ _ _ _ _ us hl => match us, hl with | [_], _ => rfl) (fun vs H Q E h => ?_) (fun f cdv A outer s H vs Q E hr h => ?_)
  · obtain ⟨v, r, rfl, _⟩ := h
    rfl
  · obtain ⟨v, d, rfl, hv, fit, q, qe⟩ := h
    refine ⟨_, (pss_cons (ps_if (pt_not (pt_val (pe_callH G_is_sequence (hr.mono (by omega)) (by rfl) (pa_cons (pv 0) pa_nil)))) (pss_one (ps_raise rfl (takes_of rfl rfl rfl rfl) (pmk_own PySem.F.excBase_ValueError X1.x X1.g X1.k (raises_own X1.b X1.t) (by exact rfl)))) pss_nil)
    (pss_one (ps_ret (pe_lc (own := [("kind", 1), ("count", 2)]) rfl sc_checked_runs.nd (pi_seqV 0) (blkOk_by (N := ["sequence", "kind", "count"]) (sc := defScope s_checked_runs) (by decide +kernel)) (fun _ _ _ _ _ => (pg_any (n := 2) rfl (pgs_cons (pg_name (i := 1) sc_checked_runs.nd rfl (by first | exact Or.inl rfl | exact Or.inr rfl)) (pgs_cons (pg_name (i := 2) sc_checked_runs.nd rfl (by first | exact Or.inl rfl | exact Or.inr rfl)) pgs_nil)))) (fun _ _ _ _ _ => pts_nil) (fun _ _ _ _ _ => (pe_tup (pa_cons (pv 1) (pa_cons (pv 2) pa_nil)))))))), ?_⟩
    refine ⟨_, rfl, v, d, rfl, hv, fit, fun H1 s1 => ⟨_, rfl, ?_⟩⟩
    by_cases cs : d.seq = true
    · refine iteN (by rw [cs]; rfl) ?_
      have q := q cs
      obtain ⟨hR, ok⟩ := seq_rp hv cs
      generalize d.runs = rs at *
      obtain ⟨a, xs, rfl, hx, hp⟩ := hR
      have lx : xs.length = rs.length := Paired.len hp
      refine ⟨a, xs, rfl, hx.same s1, fun J wk L nL => lc_wk wk (fun i H' => Same H1 H' ∧ ∃ ys, H' L = some (.lst ys) ∧ Paired (RunV H') ys (rs.take i)) (fun _ _ p => p.1) ⟨same_upd nL, [], upd_same, .nil⟩ (fun i x H2 ex p => ?_) (fun H2 p => ?_)⟩
      · obtain ⟨sm, ys, hL, hy⟩ := p
        obtain ⟨r, er, hr1⟩ := Paired.at hp ex
        have hi : i < xs.length := (List.getElem?_eq_some_iff.mp ex).1
        obtain ⟨t, rfl, ht⟩ := RunG.same (s1.trans sm) hr1
        refine ⟨t, _, rfl, ht, rfl, _, _, rfl, _, _, rfl, rfl, rfl, yesT ⟨_, rfl, _, rfl, (by show 2 ≤ sizeLine; decide), fun n nn => ⟨_, same_upd nn _ _ hL, ?_, same_grow nL (sm.trans (same_upd nn)), _, upd_same, ?_⟩⟩⟩
        · have := Paired.len hy
          rw [List.length_take] at this
          exact small (by have := ok.1; omega)
        · rw [take_snoc er]
          refine Paired.app (prs_grow (same_upd nn _ _ hL) (prs_same (same_upd nn) hy)) (.cons ?_ .nil)
          exact RunV.grow (same_upd nn _ _ hL) ⟨n, rfl, upd_same⟩
      · obtain ⟨sm, ys, hL, hy⟩ := p
        rw [lx, List.take_length] at hy
        exact q H2 L (s1.trans sm) (s1.free nL) ⟨ys, hL, hy⟩
    · have cs : d.seq = false := by simpa using cs
      exact iteP (by rw [cs]; rfl) (qe cs _ s1)
end
end UP

set_option Elab.async false
set_option linter.all false
set_option maxRecDepth 100000
set_option maxHeartbeats 4000000
namespace UP
open PySem PySem.Spec PyProof.Rows L2
section
variable {P : Program} {w : World} {K : PySem.W.Frag} {mg : Str → Option Value} {base : Heap}
def lenR (rs : List Run) : Int := (rs.map (·.2)).sum
/-! length_of: slots 0:runs 1:kind 2:count -/
abbrev s_length_of : Stmt := topS 37
theorem sc_length_of : FnScope ["runs", "kind", "count"] ["runs"] (defScope s_length_of) := ⟨rfl, rfl, rfl, by decide +kernel, rfl, by decide +kernel, by decide +kernel⟩
def sp_length_of : Sp := fun vs H Q _ => ∃ (a : Addr) (rs : List Run), vs = [.ref a] ∧ Runs H a rs ∧ rs.length ≤ 1000 ∧ ∀ H', Same H H' → Q (.int (lenR rs)) H'
theorem ok_length_of (D : Df K mg "length_of" s_length_of) (T : Tx mg) : Has P w K mg base 1 "length_of" ["runs"] sp_length_of := by
  refine has_of D sc_length_of (fun _ _ _ _ _ _ us hl => match us, hl with | [_], _ => rfl) (fun vs H Q E h => ?_) (fun f cdv A outer s H vs Q E hr h => ?_)
  · obtain ⟨v, r, rfl, _⟩ := h
    rfl
  · obtain ⟨a, rs, rfl, ⟨xs, hx, hp⟩, l4, q⟩ := h
    have lx : xs.length = rs.length := Paired.len hp
    refine ⟨_, (pss_one (ps_ret (pe_callB (cr_sum rfl) (by rfl) T.n_sum (by decide +kernel) (pa_cons (pe_lc (own := [("kind", 1), ("count", 2)]) rfl sc_length_of.nd (pi_list (pv 0)) (blkOk_by (N := ["runs", "kind", "count"]) (sc := defScope s_length_of) (by decide +kernel)) (fun _ _ _ _ _ => (pg_tupK (K := K) (n := 2) rfl rfl (pgs_cons (pg_name (i := 1) sc_length_of.nd rfl (by first | exact Or.inl rfl | exact Or.inr rfl)) (pgs_cons (pg_name (i := 2) sc_length_of.nd rfl (by first | exact Or.inl rfl | exact Or.inr rfl)) pgs_nil)))) (fun _ _ _ _ _ => pts_nil) (fun _ _ _ _ _ => (pv 2))) pa_nil)))), ?_⟩
    refine ⟨_, rfl, a, rfl, ⟨xs, .of hx⟩, fun L nL => lc_list (K := K) (a := a) (xs := xs) (fun i H' => Same H H' ∧ H' L = some (.lst (((rs.map (·.2)).take i).map V.int))) ⟨same_upd nL, upd_same⟩ (fun i H' _ p => .of (p.1 _ _ hx)) (fun i x H2 ex p => ?_) (fun H2 p => ?_)⟩
    · obtain ⟨sm, hL⟩ := p
      obtain ⟨r, er, hr1⟩ := Paired.at hp ex
      have hi : i < xs.length := (List.getElem?_eq_some_iff.mp ex).1
      obtain ⟨t, rfl, ht⟩ := RunV.same sm hr1
      refine ⟨t, _, rfl, .of ht, rfl, _, _, rfl, _, _, rfl, rfl, rfl, yesT ⟨_, rfl, _, hL, ?_, same_grow nL sm, ?_⟩⟩
      · simp only [List.length_map, List.length_take]
        exact small (by omega)
      · rw [upd_same, take_snoc (x := r.2) (by rw [List.getElem?_map, er]; rfl), List.map_append]
        rfl
    · refine ⟨L, (rs.map (fun r : Run => r.2)), rfl, .of ?_, q H2 p.1⟩
      have := p.2
      rw [List.take_of_length_le (by rw [List.length_map]; omega)] at this
      exact this
end
end UP

set_option Elab.async false
set_option linter.all false
set_option maxRecDepth 100000
set_option maxHeartbeats 4000000
namespace UP
open PySem PySem.Spec PyProof.Rows L2
/-! ### the mirror of cut -/
theorem lenR_nil : lenR [] = 0 := rfl
theorem lenR_cons (r : Run) (l : List Run) : lenR (r :: l) = r.2 + lenR l := by
  unfold lenR
  rw [List.map_cons, List.sum_cons]
theorem lenR_app (l m : List Run) : lenR (l ++ m) = lenR l + lenR m := by
  induction l with
  | nil => rw [List.nil_append, lenR_nil]; omega
  | cons r t ih => rw [List.cons_append, lenR_cons, lenR_cons, ih]; omega
theorem lenR_snoc (l : List Run) (r : Run) : lenR (l ++ [r]) = lenR l + r.2 := by
  rw [lenR_app, lenR_cons, lenR_nil]
  omega
def sizeR (b s e c : Int) : Int := (if b + c < e then b + c else e) - (if b > s then b else s)
def pieceR (b s e : Int) (r : Run) : List Run := if 0 < sizeR b s e r.2 then [(r.1, sizeR b s e r.2)] else []
def cutR (s e : Int) : Int → List Run → List Run
  | _, [] => []
  | b, r :: t => pieceR b s e r ++ cutR s e (b + r.2) t
theorem cutR_snoc (s e : Int) : ∀ (l : List Run) (b : Int) (r : Run), cutR s e b (l ++ [r]) = cutR s e b l ++ pieceR (b + lenR l) s e r
  | [], b, r => by
    show pieceR b s e r ++ [] = [] ++ pieceR (b + lenR []) s e r
    rw [lenR_nil, Int.add_zero, List.append_nil, List.nil_append]
  | x :: t, b, r => by
    show pieceR b s e x ++ cutR s e (b + x.2) (t ++ [r]) = (pieceR b s e x ++ cutR s e (b + x.2) t) ++ pieceR (b + lenR (x :: t)) s e r
    rw [cutR_snoc s e t, lenR_cons, List.append_assoc, Int.add_assoc]
theorem pieceR_len (b s e : Int) (r : Run) : (pieceR b s e r).length ≤ 1 := by
  unfold pieceR
  split <;> simp
theorem cutR_len (s e : Int) : ∀ (l : List Run) (b : Int), (cutR s e b l).length ≤ l.length
  | [], _ => Nat.le_refl _
  | r :: t, b => by
    show (pieceR b s e r ++ cutR s e (b + r.2) t).length ≤ (r :: t).length
    have h1 := pieceR_len b s e r
    have h2 := cutR_len s e t (b + r.2)
    rw [List.length_append, List.length_cons]
    omega
section
variable {P : Program} {w : World} {K : PySem.W.Frag} {mg : Str → Option Value} {base : Heap}
end
end UP

set_option Elab.async false
set_option linter.all false
set_option maxRecDepth 100000
set_option maxHeartbeats 4000000
namespace UP
open PySem PySem.Spec PyProof.Rows L2
/-! ### the mirror of the states -/
def numR : Option Run → Int
  | none => 0
  | some r => r.2
def leavR : Option Run → Str → Int → Int
  | none, _, _ => 0
  | some r, k, c => if r.1 = k then 0 else if c < r.2 then c else r.2
def stepR : Option Run → Str → Int → Option Run
  | some r, k, c => if r.1 = k then some (k, r.2 + c) else if 0 < r.2 - c then some (r.1, r.2 - c) else if r.2 - c = 0 then none else some (k, -(r.2 - c))
  | none, k, c => some (k, c)
def withR (k : Str) (n : Int) : Option Run := if n = 0 then none else some (k, n)
def stR (rs : List Run) (st : Option Run) : Option Run := rs.foldl (fun s r => stepR s r.1 r.2) st
theorem stR_snoc (l : List Run) (r : Run) (st : Option Run) : stR (l ++ [r]) st = stepR (stR l st) r.1 r.2 := by
  unfold stR
  rw [List.foldl_append]
  rfl
section
variable {P : Program} {w : World} {K : PySem.W.Frag} {mg : Str → Option Value} {base : Heap}
/-! waiting_number: slots 0:state -/
abbrev s_waiting_number : Stmt := topS 40
theorem sc_waiting_number : FnScope ["state"] ["state"] (defScope s_waiting_number) := ⟨rfl, rfl, rfl, by decide +kernel, rfl, by decide +kernel, by decide +kernel⟩
def sp_waiting_number : Sp := fun vs H Q _ => ∃ (v : V) (st : Option Run), vs = [v] ∧ StV H v st ∧ Q (.int (numR st)) H
theorem ok_waiting_number (D : Df K mg "waiting_number" s_waiting_number) : Has P w K mg base 1 "waiting_number" ["state"] sp_waiting_number := by
  refine has_of D sc_waiting_number (fun _ _ _ _ _ _ us hl => match us, hl with | [_], _ => rfl) (fun vs H Q E h => ?_) (fun f cdv A outer s₀ H vs Q E hr h => ?_)
  · obtain ⟨a, rs, rfl, _⟩ := h
    rfl
  · obtain ⟨v, st, rfl, hv, q⟩ := h
    refine ⟨_, (pss_one (ps_ret (pe_ifExp (pt_cmpR op_isN (pv 0) pe_non (nomark _)) pe_int (pe_ix ix_tup (pv 0) pe_int (fun _ _ => rfl))))), ?_⟩
    cases st with
    | none =>
      cases hv
      exact ⟨_, rfl, rfl, _, rfl, iteP rfl q⟩
    | some r =>
      obtain ⟨t, rfl, ht⟩ := hv
      exact ⟨_, rfl, rfl, _, rfl, iteN rfl ⟨_, rfl, t, _, 1, _, rfl, rfl, .of ht, at1, q⟩⟩
/-! state_with: slots 0:kind 1:number -/
abbrev s_state_with : Stmt := topS 41
theorem sc_state_with : FnScope ["kind", "number"] ["kind", "number"] (defScope s_state_with) := ⟨rfl, rfl, rfl, by decide +kernel, rfl, by decide +kernel, by decide +kernel⟩
def sp_state_with : Sp := fun vs H Q _ => ∃ (k : Str) (n : Int), vs = [.str k, .int n] ∧ ∀ H' v', Same H H' → StV H' v' (withR k n) → Q v' H'
theorem ok_state_with (D : Df K mg "state_with" s_state_with) : Has P w K mg base 1 "state_with" ["kind", "number"] sp_state_with := by
  refine has_of D sc_state_with (fun _ _ _ _ _ _ us hl => match us, hl with | [_, _], _ => rfl) (fun vs H Q E h => ?_) (fun f cdv A outer s₀ H vs Q E hr h => ?_)
  · obtain ⟨k, n, rfl, _⟩ := h
    rfl
  · obtain ⟨k, n, rfl, q⟩ := h
    refine ⟨_, (pss_one (ps_ret (pe_ifExp (pt_cmpR op_eq (pv 1) pe_int (nomark _)) pe_non (pe_tup (pa_cons (pv 0) (pa_cons (pv 1) pa_nil)))))), ?_⟩
    refine ⟨_, rfl, rfl, _, rfl, ?_⟩
    by_cases e : n = 0
    · rw [show withR k n = none from if_pos e] at q
      exact iteP (decide_eq_true (by rw [e])) (q _ _ (Same.refl _) rfl)
    · rw [show withR k n = some (k, n) from if_neg e] at q
      refine iteN (decide_eq_false fun z => e (V.int.inj z)) ?_
      exact ⟨_, rfl, _, rfl, (by show 2 ≤ sizeLine; decide), fun n' nn => q _ _ (same_upd nn) ⟨n', rfl, upd_same⟩⟩
/-! state_after_run: slots 0:state 1:kind 2:count 3:left_over -/
abbrev s_state_after_run : Stmt := topS 42
theorem sc_state_after_run : FnScope ["state", "kind", "count", "left_over"] ["state", "kind", "count"] (defScope s_state_after_run) := ⟨rfl, rfl, rfl, by decide +kernel, rfl, by decide +kernel, by decide +kernel⟩
def sp_state_after_run : Sp := fun vs H Q _ => ∃ (v : V) (st : Option Run) (k : Str) (c : Int), vs = [v, .str k, .int c] ∧ StV H v st ∧ 1 ≤ c ∧ ∀ H' v', Same H H' → StV H' v' (stepR st k c) → Q v' H'
theorem ok_state_after_run (D : Df K mg "state_after_run" s_state_after_run) (G_waiting_number : Has P w K mg base 1 "waiting_number" ["state"] sp_waiting_number) (G_state_with : Has P w K mg base 1 "state_with" ["kind", "number"] sp_state_with) : Has P w K mg base 2 "state_after_run" ["state", "kind", "count"] sp_state_after_run := by
  refine has_of D sc_state_after_run (fun _ _ _ _ _ _ us hl => match us, hl with | [_, _, _], _ => rfl) (fun vs H Q E h => ?_) (fun f cdv A outer s₀ H vs Q E hr h => ?_)
  · obtain ⟨a, rs, _, _, rfl, _⟩ := h
    rfl
  · obtain ⟨v, st, k, c, rfl, hv, hc, q⟩ := h
    refine ⟨_, (pss_cons (ps_if (PW.pt (pw_and (pt_cmpR op_notN (pv 0) pe_non (nomark _)) (pw_and1 (pt_cmpR op_eq (pe_ix ix_tup (pv 0) pe_int (fun _ _ => rfl)) (pv 1) (nomark _))))) (pss_one (ps_ret (pe_tup (pa_cons (pv 1) (pa_cons (pe_op op_add (pe_ix ix_tup (pv 0) pe_int (fun _ _ => rfl)) (pv 2)) pa_nil))))) pss_nil)
    (pss_cons (ps_set (i := 3) sc_state_after_run.nd rfl (by first | exact Or.inl rfl | exact Or.inr rfl) (pe_op op_sub (pe_callH G_waiting_number (hr.mono (by omega)) (by rfl) (pa_cons (pv 0) pa_nil)) (pv 2)))
    (pss_cons (ps_if (pt_cmpR op_gt (pv 3) pe_int (nomark _)) (pss_one (ps_ret (pe_tup (pa_cons (pe_ix ix_tup (pv 0) pe_int (fun _ _ => rfl)) (pa_cons (pv 3) pa_nil))))) pss_nil)
    (pss_one (ps_ret (pe_callH G_state_with (hr.mono (by omega)) (by rfl) (pa_cons (pv 1) (pa_cons (pe_un un_neg (pv 3)) pa_nil)))))))), ?_⟩
    cases st with
    | none =>
      cases hv
      refine ⟨_, rfl, rfl, _, rfl, iteN rfl (iteF ?_)⟩
      refine ⟨_, rfl, _, none, rfl, rfl, _, rfl, _, _, rfl, rfl, ?_⟩
      refine ⟨_, rfl, _, _, rfl, rfl, _, rfl, iteN (decide_eq_false (by show ¬ (0 : Int) < 0 - c; omega)) ?_⟩
      refine ⟨_, rfl, _, rfl, _, rfl, k, -(0 - c), rfl, fun H' v' s h => q H' v' s ?_⟩
      have e : withR k (-(0 - c)) = some (k, c) := by
        unfold withR
        rw [if_neg (by omega), show -(0 - c) = c by omega]
      rw [e] at h
      exact h
    | some r =>
      obtain ⟨t, rfl, ht⟩ := hv
      refine ⟨_, rfl, rfl, _, rfl, iteP rfl ⟨_, rfl, t, _, 0, _, rfl, rfl, .of ht, at0, _, rfl, rfl, _, rfl, ?_⟩⟩
      by_cases e : r.1 = k
      · have es : stepR (some r) k c = some (k, r.2 + c) := if_pos e
        rw [es] at q
        refine iteP (by rw [e]; exact decide_eq_true rfl) ?_
        exact ⟨_, rfl, _, rfl, t, _, 1, _, rfl, rfl, .of ht, at1, _, rfl, _, _, rfl, rfl, (by show 2 ≤ sizeLine; decide), fun n nn => q _ _ (same_upd nn) ⟨n, rfl, upd_same⟩⟩
      · refine iteN (decide_eq_false fun z => e (V.str.inj z)) ?_
        have es : stepR (some r) k c = if 0 < r.2 - c then some (r.1, r.2 - c) else if r.2 - c = 0 then none else some (k, -(r.2 - c)) := if_neg e
        rw [es] at q
        refine ⟨_, rfl, _, some r, rfl, ⟨t, rfl, ht⟩, _, rfl, _, _, rfl, rfl, ?_⟩
        refine ⟨_, rfl, _, _, rfl, rfl, _, rfl, ?_⟩
        by_cases e1 : 0 < r.2 - c
        · rw [if_pos e1] at q
          refine iteP (decide_eq_true e1) ?_
          exact ⟨_, rfl, t, _, 0, _, rfl, rfl, .of ht, at0, _, rfl, (by show 2 ≤ sizeLine; decide), fun n nn => q _ _ (same_upd nn) ⟨n, rfl, upd_same⟩⟩
        · rw [if_neg e1] at q
          refine iteN (decide_eq_false e1) ⟨_, rfl, _, rfl, _, rfl, k, -(r.2 - c), rfl, fun H' v' s h => q H' v' s ?_⟩
          have e3 : withR k (-(r.2 - c)) = if r.2 - c = 0 then none else some (k, -(r.2 - c)) := by
            unfold withR
            by_cases e2 : r.2 - c = 0
            · rw [if_pos e2, if_pos (by omega)]
            · rw [if_neg e2, if_neg (by omega)]
          rw [e3] at h
          exact h
/-! state_after_runs: slots 0:runs 1:state 2:kind 3:count -/
abbrev s_state_after_runs : Stmt := topS 43
theorem sc_state_after_runs : FnScope ["runs", "state", "kind", "count"] ["runs", "state"] (defScope s_state_after_runs) := ⟨rfl, rfl, rfl, by decide +kernel, rfl, by decide +kernel, by decide +kernel⟩
def sp_state_after_runs : Sp := fun vs H Q _ => ∃ (a : Addr) (rs : List Run) (v : V) (st : Option Run), vs = [.ref a, v] ∧ Runs H a rs ∧ (∀ r ∈ rs, 1 ≤ r.2) ∧ StV H v st ∧ ∀ H' v', Same H H' → StV H' v' (stR rs st) → Q v' H'
theorem ok_state_after_runs (D : Df K mg "state_after_runs" s_state_after_runs) (G_state_after_run : Has P w K mg base 2 "state_after_run" ["state", "kind", "count"] sp_state_after_run) : Has P w K mg base 3 "state_after_runs" ["runs", "state"] sp_state_after_runs := by
  refine has_of D sc_state_after_runs (fun _ _ _ _ _ _ us hl => match us, hl with | [_, _], _ => rfl) (fun vs H Q E h => ?_) (fun f cdv A outer s₀ H vs Q E hr h => ?_)
  · obtain ⟨a, rs, _, _, rfl, _⟩ := h
    rfl
  · obtain ⟨a, rs, v, st, rfl, ⟨xs, hx, hp⟩, pos, hv, q⟩ := h
    have lx : xs.length = rs.length := Paired.len hp
    refine ⟨_, (pss_cons (ps_for PassesOwn.never rfl (pi_list (pv 0)) (pg_tup rfl (pgs_cons (pg_name (i := 2) sc_state_after_runs.nd rfl (by first | exact Or.inl rfl | exact Or.inr rfl)) (pgs_cons (pg_name (i := 3) sc_state_after_runs.nd rfl (by first | exact Or.inl rfl | exact Or.inr rfl)) pgs_nil)))
      (pss_one (ps_set (i := 1) sc_state_after_runs.nd rfl (by first | exact Or.inl rfl | exact Or.inr rfl) (pe_callH G_state_after_run (hr.mono (by omega)) (by rfl) (pa_cons (pv 1) (pa_cons (pv 2) (pa_cons (pv 3) pa_nil)))))))
    (pss_one (ps_ret (pv 1)))), ?_⟩
    refine ⟨_, rfl, a, rfl, ⟨xs, .of hx⟩, for_list (K := K) (a := a) (xs := xs) (fun i σ H' => ∃ v' y2 y3, σ = [some (.ref a), some v', y2, y3] ∧ Same H H' ∧ StV H' v' (stR (rs.take i) st))
      ⟨v, none, none, rfl, Same.refl H, hv⟩ (fun i σ H' _ hP => ?_) (fun i x σ H1 ex hP => ?_) (fun σ H1 hP => ?_)⟩
    · obtain ⟨_, _, _, _, sm, _⟩ := hP
      exact .of (sm _ _ hx)
    · obtain ⟨v', y2, y3, rfl, sm, hv'⟩ := hP
      obtain ⟨r, er, hr1⟩ := Paired.at hp ex
      obtain ⟨t, rfl, ht⟩ := RunV.same sm hr1
      refine ⟨t, _, rfl, .of ht, rfl, _, _, rfl, _, _, rfl, rfl, ?_⟩
      refine ⟨_, rfl, _, rfl, _, rfl, v', _, r.1, r.2, rfl, hv', pos r (List.mem_of_getElem? er), fun H2 v2 s2 h2 => ⟨v2, _, _, rfl, sm.trans s2, ?_⟩⟩
      rw [take_snoc er, stR_snoc]
      exact h2
    · obtain ⟨v', y2, y3, rfl, sm, hv'⟩ := hP
      rw [lx, List.take_length] at hv'
      exact ⟨_, rfl, q H1 v' sm hv'⟩
end
end UP

set_option Elab.async false
set_option linter.all false
set_option maxRecDepth 100000
set_option maxHeartbeats 4000000
namespace UP
open PySem PySem.Spec PyProof.Rows L2
section
variable {X : Cx}
/-- a call that may raise, in a def that may -/
theorem pe_callXH {k : Nat} {x : Str} {ps : List Str} {sp : Sp} {W : WX} {p pos : Pos} {e : Expr} {es : List Expr} {t : TA} (G : HasX X.prog X.w X.K X.mg X.base k x ps sp) (tk : Takes X W) (hr : Room k X.A) (hg : Gl X x) (ha : PA X (e :: es) t)
    (hdb : (x == ("__debug__" : Str)) = false := by decide) (he : starEach (e :: es) X.env = (false, eval e X.env) :: starEach es X.env := by rfl) (hpl : (backTo pos (starEach es X.env)).any (·.1) = false := by rfl) :
    PE X (.Call (.Name x p) (e :: es) [] pos) (tCallS sp (WE W) t) := by
  obtain ⟨f, fd, g, kp, b, F⟩ := G
  exact pe_callS F hr hg g kp b (fun σ => passAt tk σ) ha hdb he hpl
end
section
variable {P : Program} {w : World} {K : PySem.W.Frag} {mg : Str → Option Value} {base : Heap}
end
end UP

set_option Elab.async false
set_option linter.all false
set_option maxRecDepth 100000
set_option maxHeartbeats 4000000
namespace UP
open PySem PySem.Spec PyProof.Rows L2
theorem step_other {r : Run} {k : Str} {c : Int} (h : r.1 ≠ k) : stepR (some r) k c = if 0 < r.2 - c then some (r.1, r.2 - c) else if r.2 - c = 0 then none else some (k, -(r.2 - c)) := if_neg h
def PosO (st : Option Run) : Prop := ∀ r, st = some r → 1 ≤ r.2
structure Nice (w n : Nat) (d : PyData) : Prop where
  can : d.canLay0 = true
  dep : d.depth ≤ n
  sho : d.showable = true
  lea : d.leavesShort 100 = true
  wei : d.weight ≤ w
theorem nice_none : Nice 0 0 .none := ⟨rfl, Nat.le_refl _, rfl, rfl, Nat.le_refl _⟩
theorem stepR_pos {st : Option Run} {k : Str} {c : Int} (h : PosO st) (hc : 1 ≤ c) : PosO (stepR st k c) := by
  intro r e
  cases st with
  | none =>
    cases e
    exact hc
  | some x =>
    have hx := h x rfl
    have e : (if x.1 = k then some (k, x.2 + c) else if 0 < x.2 - c then some (x.1, x.2 - c) else if x.2 - c = 0 then none else some (k, -(x.2 - c))) = some r := e
    by_cases h1 : x.1 = k
    · rw [if_pos h1] at e
      cases e
      show 1 ≤ x.2 + c
      omega
    · rw [if_neg h1] at e
      by_cases h2 : 0 < x.2 - c
      · rw [if_pos h2] at e
        cases e
        show 1 ≤ x.2 - c
        omega
      · rw [if_neg h2] at e
        by_cases h3 : x.2 - c = 0
        · rw [if_pos h3] at e
          cases e
        · rw [if_neg h3] at e
          cases e
          show 1 ≤ -(x.2 - c)
          omega
theorem nice_items {w n : Nat} : ∀ {ds : List PyData}, (∀ d ∈ ds, Nice w n d) → PyData.canLayAll0 ds = true ∧ PyData.depthAll ds ≤ n ∧ PyData.showableAll ds = true ∧ PyData.leavesShortAll 100 ds = true ∧ PyData.weightAll ds ≤ (w + 1) * ds.length
  | [], _ => ⟨rfl, Nat.zero_le _, rfl, rfl, Nat.zero_le _⟩
  | d :: t, h => by
    have h1 := h d (List.mem_cons_self ..)
    obtain ⟨a, b, c, e, f⟩ := nice_items (ds := t) fun x hx => h x (List.mem_cons_of_mem _ hx)
    refine ⟨?_, ?_, ?_, ?_, ?_⟩
    · rw [PyData.canLayAll0, h1.can, a]
      rfl
    · rw [PyData.depthAll]
      exact Nat.max_le.mpr ⟨h1.dep, b⟩
    · rw [PyData.showableAll, h1.sho, c]
      rfl
    · rw [PyData.leavesShortAll, h1.lea, e]
      rfl
    · have h2 := h1.wei
      rw [PyData.weightAll, List.length_cons, Nat.mul_succ]
      omega
theorem nice_tup {w n : Nat} {ds : List PyData} (h : ∀ d ∈ ds, Nice w n d) : Nice ((w + 1) * ds.length) (n + 1) (.tuple ds) := by
  obtain ⟨a, b, c, e, f⟩ := nice_items h
  exact ⟨by rw [PyData.canLay0]; exact a, by rw [PyData.depth]; omega, by rw [PyData.showable]; exact c, by rw [PyData.leavesShort]; exact e, by rw [PyData.weight]; exact f⟩
theorem Nice.mono {w w' n n' : Nat} {d : PyData} (h : Nice w n d) (h1 : w ≤ w') (h2 : n ≤ n') : Nice w' n' d := ⟨h.can, Nat.le_trans h.dep h2, h.sho, h.lea, Nat.le_trans h.wei h1⟩
/-- v stands for d at H and at every heap that keeps H -/
def DpS (K : PySem.W.Frag) (H : Hp) (v : V) (d : PyData) : Prop := ∀ H', Same H H' → Dp K H' v d
theorem dps_all {K : PySem.W.Frag} {H : Hp} {F : PyData → Prop} : ∀ {xs : List V}, (∀ x ∈ xs, ∃ d, DpS K H x d ∧ F d) → ∃ ds, (∀ H', Same H H' → DpAll K H' xs ds) ∧ ds.length = xs.length ∧ ∀ d ∈ ds, F d
  | [], _ => ⟨[], fun _ _ => .nil, rfl, fun d h => by cases h⟩
  | x :: t, h => by
    obtain ⟨d, h1, h2⟩ := h x (List.mem_cons_self ..)
    obtain ⟨ds, a, b, c⟩ := dps_all (xs := t) fun y hy => h y (List.mem_cons_of_mem _ hy)
    refine ⟨d :: ds, fun H' s => .cons (h1 H' s) (a H' s), congrArg Nat.succ b, fun z hz => ?_⟩
    rcases List.mem_cons.mp hz with e | e
    · rw [e]
      exact h2
    · exact c z e
theorem KindOk.str {s : Str} (h : KindOk s) : PyData.strOk s = true := by
  unfold PyData.strOk
  rw [Array.all_eq_true']
  intro c hc
  have := h.2.2 c (by simpa using hc)
  exact decide_eq_true (by omega)
def dRun (r : Run) : PyData := .tuple [.str r.1, .int r.2]
theorem depth_run (r : Run) : (dRun r).depth ≤ 2 := by
  simp [dRun, PyData.depth, PyData.depthAll]
theorem nice_str {s : Str} (h : KindOk s) : Nice 8 0 (.str s) := by
  refine ⟨?_, Nat.le_refl _, rfl, ?_, h.2.1⟩
  · rw [PyData.canLay0]
    exact h.str
  · rw [PyData.leavesShort, List.all_eq_true]
    intro c hc
    have := h.2.2 c hc
    exact decide_eq_true (by omega)
theorem nice_int {i : Int} (h : i.natAbs < 10 ^ 60) : Nice 201 0 (.int i) := by
  have h2 : i.natAbs < 2 ^ 200 := Nat.lt_of_lt_of_le h (by decide)
  have h3 : i.natAbs.log2 < 200 := by
    by_cases z : i.natAbs = 0
    · rw [z]
      decide
    · exact (Nat.log2_lt z).mpr h2
  refine ⟨by rw [PyData.canLay0], Nat.le_refl _, ?_, ?_, ?_⟩
  · rw [PyData.showable]
    exact decide_eq_true (by omega)
  · rw [PyData.leavesShort]
    refine decide_eq_true ?_
    have e := int_text_length_le10 (k := 60) (by decide) h
    show (Str.ofString (toString i)).length ≤ 100
    rw [PySem.ofString_length]
    omega
  · rw [PyData.weight]
    split <;> omega
theorem can_run {r : Run} (h : KindOk r.1) : (dRun r).canLay0 = true := by
  simp [dRun, PyData.canLay0, PyData.canLayAll0, h.str]
theorem nice_list {w n : Nat} {ds : List PyData} (h : ∀ d ∈ ds, Nice w n d) : Nice ((w + 1) * ds.length) (n + 1) (.list ds) := by
  obtain ⟨a, b, c, e, f⟩ := nice_items h
  exact ⟨by rw [PyData.canLay0]; exact a, by rw [PyData.depth]; omega, by rw [PyData.showable]; exact c, by rw [PyData.leavesShort]; exact e, by rw [PyData.weight]; exact f⟩
theorem dps_seq {K : PySem.W.Frag} {H : Hp} {a : Addr} {xs : List V} {w n : Nat} (hx : Sq2 H a xs) (h : ∀ x ∈ xs, ∃ d, DpS K H x d ∧ Nice w n d) : ∃ d, DpS K H (.ref a) d ∧ Nice ((w + 1) * xs.length) (n + 1) d := by
  obtain ⟨ds, h1, h2, h3⟩ := dps_all h
  rcases hx with z | z
  · exact ⟨.list ds, fun H' s => .lst (.of (s _ _ z)) (h1 H' s), by rw [← h2]; exact nice_list h3⟩
  · exact ⟨.tuple ds, fun H' s => .tup (.of (s _ _ z)) (h1 H' s), by rw [← h2]; exact nice_tup h3⟩
theorem dp_run {K : PySem.W.Frag} {H : Hp} {v : V} {r : Run} (h : RunV H v r) : Dp K H v (dRun r) := by
  obtain ⟨t, rfl, h⟩ := h
  exact .tup (.of h) (.cons (.str _) (.cons (.int _) .nil))
theorem shaped_run {r : Run} (h : KindOk r.1) : SeqAt.shaped (dRun r) = true := by
  unfold SeqAt.shaped
  rw [can_run h]
  have := depth_run r
  exact decide_eq_true (by omega)
theorem dps_run {K : PySem.W.Frag} {H : Hp} {v : V} {r : Run} (h : RunG H v r) (k : KindOk r.1) (c : r.2.natAbs < 10 ^ 60) : ∃ d, DpS K H v d ∧ Nice 404 1 d := by
  obtain ⟨t, rfl, h⟩ := h
  have := dps_seq (K := K) (w := 201) (n := 0) h fun x hx => by
    rcases List.mem_cons.mp hx with e | e
    · rw [e]
      exact ⟨.str r.1, fun _ _ => .str _, (nice_str k).mono (by decide) (Nat.le_refl _)⟩
    · rw [List.mem_singleton.mp e]
      exact ⟨.int r.2, fun _ _ => .int _, nice_int c⟩
  exact this
def StOk (st : Option Run) : Prop := ∀ r, st = some r → KindOk r.1 ∧ 1 ≤ r.2
theorem sb {sp : Addr} {H H' : Hp} (h : Same H H') : But sp H H' := fun b o _ e => h b o e
theorem shaped_nil : SeqAt.shaped (.list []) = true := by decide
theorem step_same {r : Run} {k : Str} {c : Int} (h : r.1 = k) : stepR (some r) k c = some (k, r.2 + c) := if_pos h
def itR (rs : List Run) : List Str := rs.flatMap fun r => List.replicate r.2.toNat r.1
theorem stR_cons (r : Run) (l : List Run) (st : Option Run) : stR (r :: l) st = stR l (stepR st r.1 r.2) := rfl
theorem step_step {s : Option Run} {k : Str} {c : Int} (h : PosO s) (hc : 1 ≤ c) : stepR (stepR s k 1) k c = stepR s k (1 + c) := by
  cases s with
  | none => exact step_same (r := (k, 1)) rfl
  | some r =>
    have r1 := h r rfl
    by_cases e : r.1 = k
    · rw [step_same e, step_same e, step_same (r := (k, r.2 + 1)) rfl]
      show some (k, r.2 + 1 + c) = _
      rw [Int.add_assoc]
    · rw [step_other e, step_other e]
      by_cases h1 : 0 < r.2 - 1
      · rw [if_pos h1, step_other (r := (r.1, r.2 - 1)) e]
        show (if 0 < r.2 - 1 - c then some (r.1, r.2 - 1 - c) else if r.2 - 1 - c = 0 then none else some (k, -(r.2 - 1 - c))) = _
        rw [show r.2 - 1 - c = r.2 - (1 + c) by omega]
      · have e2 : r.2 - 1 = 0 := by omega
        rw [if_neg h1, if_pos e2, if_neg (by omega), if_neg (by omega)]
        show some (k, c) = _
        rw [show -(r.2 - (1 + c)) = c by omega]
theorem len_it : ∀ (rs : List Run), (∀ r ∈ rs, 1 ≤ r.2) → ((itR rs).length : Int) = lenR rs
  | [], _ => rfl
  | r :: t, k => by
    have c1 := k r (List.mem_cons_self ..)
    have ih := len_it t fun x hx => k x (List.mem_cons_of_mem _ hx)
    have e2 : itR (r :: t) = List.replicate r.2.toNat r.1 ++ itR t := rfl
    rw [e2, List.length_append, List.length_replicate, lenR_cons]
    omega
end UP

set_option Elab.async false
set_option linter.all false
set_option maxRecDepth 100000
set_option maxHeartbeats 4000000
namespace UP
open PySem PySem.Spec PyProof.Rows L2
/-! ### the reel: a list of two lists of ints and two ints -/
def Reel (H : Hp) (p : Addr) : Prop := ∃ (g c : Addr) (gs cs : List Int) (n s : Int), H p = some (.lst [.ref g, .ref c, .int n, .int s]) ∧ H g = some (.lst (gs.map V.int)) ∧ H c = some (.lst (cs.map V.int)) ∧ gs.length ≤ 63 ∧ (∀ x ∈ gs, 0 ≤ x) ∧ 0 < cs.length ∧ cs.length ≤ 64 ∧ 0 ≤ n ∧ 0 ≤ s ∧ s < 170141183460469231731687303715884105727
def Off (H : Hp) (p D : Addr) : Prop := ∃ (g c : Addr) (n s : Int), H p = some (.lst [.ref g, .ref c, .int n, .int s]) ∧ D ≠ p ∧ D ≠ g ∧ D ≠ c
theorem not_ints {g c : Addr} {n s : Int} {l : List Int} : (HO.lst [.ref g, .ref c, .int n, .int s]) ≠ .lst (l.map V.int) := by
  intro h
  have h := HO.lst.inj h
  cases l with
  | nil => cases h
  | cons x t => cases h
theorem Reel.off {H : Hp} {p D : Addr} (z : Reel H p) (n : H D = none) : Off H p D := by
  obtain ⟨g, c, gs, cs, i, s, hp, hg, hc, _⟩ := z
  exact ⟨g, c, i, s, hp, fun e => by (rw [e, hp] at n; cases n), fun e => by (rw [e, hg] at n; cases n), fun e => by (rw [e, hc] at n; cases n)⟩
theorem Reel.ne {H : Hp} {p D : Addr} (z : Reel H p) (n : H D = none) : D ≠ p := by
  obtain ⟨_, _, _, _, _, h, _⟩ := z.off n
  exact h
theorem Off.ne {H : Hp} {p D : Addr} (z : Off H p D) : D ≠ p := by
  obtain ⟨_, _, _, _, _, h, _⟩ := z
  exact h
theorem Reel.same {H H' : Hp} {p : Addr} (z : Reel H p) (s : Same H H') : Reel H' p := by
  obtain ⟨g, c, gs, cs, i, t, hp, hg, hc, r⟩ := z
  exact ⟨g, c, gs, cs, i, t, s _ _ hp, s _ _ hg, s _ _ hc, r⟩
theorem Off.same {H H' : Hp} {p D : Addr} (z : Off H p D) (s : Same H H') : Off H' p D := by
  obtain ⟨g, c, i, t, hp, r⟩ := z
  exact ⟨g, c, i, t, s _ _ hp, r⟩
theorem Off.upd {H : Hp} {p D D' : Addr} {o : HO} (z : Off H p D) (n : D' ≠ p) : Off (upd H D' o) p D := by
  obtain ⟨g, c, i, t, hp, r⟩ := z
  exact ⟨g, c, i, t, by rw [upd_ne n.symm]; exact hp, r⟩
theorem Reel.upd {H : Hp} {p D : Addr} {x : HO} (z : Reel H p) (o : Off H p D) : Reel (upd H D x) p := by
  obtain ⟨g, c, gs, cs, i, t, hp, hg, hc, r⟩ := z
  obtain ⟨g', c', i', t', hp', n1, n2, n3⟩ := o
  rw [hp] at hp'
  cases hp'
  exact ⟨g, c, gs, cs, i, t, by rw [upd_ne n1.symm]; exact hp, by rw [upd_ne n2.symm]; exact hg, by rw [upd_ne n3.symm]; exact hc, r⟩
/-- all but the reel stays, and what was not of the reel is not of it -/
structure RB (p : Addr) (H H' : Hp) : Prop where
  but : But p H H'
  off : ∀ D o, H D = some o → Off H p D → Off H' p D
theorem RB.refl {p : Addr} {H : Hp} : RB p H H := ⟨But.refl, fun _ _ _ h => h⟩
theorem RB.trans {p : Addr} {H H1 H2 : Hp} (a : RB p H H1) (b : RB p H1 H2) : RB p H H2 := ⟨a.but.trans b.but, fun D o e h => b.off D o (a.but D o h.ne e) (a.off D o e h)⟩
theorem RB.of {p : Addr} {H H' : Hp} (s : Same H H') : RB p H H' := ⟨sb s, fun _ _ _ h => h.same s⟩
theorem RB.free {p q : Addr} {H H' : Hp} (b : RB p H H') (z : Reel H' p) (h : H' q = none) : H q = none := by
  by_cases e : q = p
  · exact absurd e (z.ne h)
  · cases r : H q with
    | none => rfl
    | some o =>
      rw [b.but q o e r] at h
      cases h
theorem RB.grow {p D : Addr} {H H' : Hp} {x : HO} (b : RB p H H') (n : H D = none) (o : Off H' p D) : RB p H (L2.upd H' D x) := ⟨fun q r e h => by
    rw [upd_ne (ne_of_none h n)]
    exact b.but q r e h, fun E r h k => (b.off E r h k).upd o.ne⟩
theorem RB.run {p : Addr} {H H' : Hp} {v : V} {r : Run} (b : RB p H H') (z : Reel H p) (h : RunV H v r) : RunV H' v r := by
  obtain ⟨t, e, h⟩ := h
  obtain ⟨_, _, _, _, _, _, hp, _⟩ := z
  exact ⟨t, e, b.but _ _ (ne_of h hp (by intro q; cases q)) h⟩
theorem RB.st {p : Addr} {H H' : Hp} {v : V} {st : Option Run} (b : RB p H H') (z : Reel H p) (h : StV H v st) : StV H' v st := by
  cases st with
  | none => exact h
  | some r => exact b.run z h
theorem RB.strs {p a : Addr} {H H' : Hp} {ks : List Str} (b : RB p H H') (z : Reel H p) (h : H a = some (.lst (ks.map V.str))) : H' a = some (.lst (ks.map V.str)) := by
  obtain ⟨_, _, _, _, _, _, hp, _⟩ := z
  refine b.but _ _ (ne_of h hp fun q => ?_) h
  have q := HO.lst.inj q
  cases ks with
  | nil => cases q
  | cons x t => cases q
theorem RB.tup {p a : Addr} {H H' : Hp} {xs : List V} (b : RB p H H') (z : Reel H p) (h : H a = some (.tup xs)) : H' a = some (.tup xs) := by
  obtain ⟨_, _, _, _, _, _, hp, _⟩ := z
  exact b.but _ _ (ne_of h hp (by intro q; cases q)) h
/-! ### lists of ints -/
theorem dp_intl {K : PySem.W.Frag} {H : Hp} : ∀ (l : List Int), DpAll K H (l.map V.int) (l.map PyData.int)
  | [] => .nil
  | x :: t => .cons (.int x) (dp_intl t)
theorem can_intl : ∀ (l : List Int), PyData.canLayAll0 (l.map PyData.int) = true
  | [] => by simp [PyData.canLayAll0]
  | x :: t => by
    rw [List.map_cons, PyData.canLayAll0, can_intl t]
    simp [PyData.canLay0]
theorem depth_intl : ∀ (l : List Int), PyData.depthAll (l.map PyData.int) ≤ 1
  | [] => by simp [PyData.depthAll]
  | x :: t => by
    rw [List.map_cons, PyData.depthAll]
    exact Nat.max_le.mpr ⟨by simp [PyData.depth], depth_intl t⟩
theorem shaped_intl (l : List Int) : SeqAt.shaped (.list (l.map PyData.int)) = true := by
  unfold SeqAt.shaped
  rw [PyData.canLay0, can_intl l, PyData.depth]
  have := depth_intl l
  exact decide_eq_true (by omega)
theorem eqv_nilI (l : List Int) : PyData.eqv (.list (l.map PyData.int)) (.list []) = l.isEmpty := by
  cases l with
  | nil => simp [PyData.eqv, PyData.eqvAll]
  | cons r t => simp [PyData.eqv, PyData.eqvAll]
theorem cut_dropR (xs : List V) (r : Int) (h0 : 0 ≤ r) (h1 : r ≤ xs.length) : cutV xs (some r) none = xs.drop r.toNat := by
  have e : HT.sIx xs.length 0 (some r) = r.toNat := by
    have := HT.sIx_nat xs.length 0 r.toNat
    rw [show ((r.toNat : Nat) : Int) = r by omega] at this
    omega
  unfold cutV
  rw [e, HT.sIx_none, List.take_of_length_le (by rw [List.length_drop]; exact Nat.le_refl _)]
theorem atI_ofR {α : Type} {l : List α} {i : Int} {x : α} (h0 : 0 ≤ i) (h : l[i.toNat]? = some x) : atI l i = some x := by
  have e : i = (i.toNat : Int) := by omega
  rw [e]
  exact atI_nat h
theorem at40 {α : Type} {x y z u : α} : atI [x, y, z, u] 0 = some x := rfl
theorem at41 {α : Type} {x y z u : α} : atI [x, y, z, u] 1 = some y := rfl
theorem at42 {α : Type} {x y z u : α} : atI [x, y, z, u] 2 = some z := rfl
theorem at43 {α : Type} {x y z u : α} : atI [x, y, z, u] 3 = some u := rfl
section
variable {P : Program} {w : World} {K : PySem.W.Frag} {mg : Str → Option Value} {base : Heap}
/-! _law_draw: slots 0:reel 1:many 2:extra 3:stir 4:rest -/
abbrev s_law_draw : Stmt := topS 60
theorem sc_law_draw : FnScope ["reel", "many", "extra", "stir", "rest"] ["reel", "many"] (defScope s_law_draw) := ⟨rfl, rfl, rfl, by decide +kernel, rfl, by decide +kernel, by decide +kernel⟩
def sp_law_draw : Sp := fun vs H Q _ => ∃ (p : Addr) (m : Int), vs = [.ref p, .int m] ∧ Reel H p ∧ 1 ≤ m ∧ m.natAbs < 2 ^ 8000 ∧ ∀ H' r, RB p H H' → Reel H' p → 0 ≤ r → r < m → Q (.int r) H'
theorem p127 : (2 : Int) ^ ((64 : Int).toNat) * 2 ^ ((63 : Int).toNat) - 1 = 170141183460469231731687303715884105727 := by decide +kernel
theorem ok_law_draw (D : Df K mg "_law_draw" s_law_draw) (T : Tx mg) : Has P w K mg base 1 "_law_draw" ["reel", "many"] sp_law_draw := by
  refine has_of D sc_law_draw (fun _ _ _ _ _ _ us hl => match us, hl with | [_, _], _ => rfl) (fun vs H Q E h => ?_) (fun f cdv A outer s₀ H vs Q E hr h => ?_)
  · obtain ⟨a, rs, rfl, _⟩ := h
    rfl
  · obtain ⟨p, m, rfl, z, m1, m2, q⟩ := h
    have z0 := z
    obtain ⟨g, c, gs, cs, n, s, hp, hg, hc, lg, g0, lc, lc2, n0, s0, s1⟩ := z
    refine ⟨_, (pss_cons (ps_if (pt_cmpR (op_neD hr.units) (pe_ix ix_list (pv 0) pe_int (fun _ _ => rfl)) (pe_lst pa_nil) (nomark _)) (pss_cons (ps_set (i := 4) sc_law_draw.nd rfl (by first | exact Or.inl rfl | exact Or.inr rfl) (pe_ix ix_list (pe_ix ix_list (pv 0) pe_int (fun _ _ => rfl)) pe_int (fun _ _ => rfl)))
    (pss_cons (ps_asg (pe_op op_cat (pe_op op_rep (pe_lst (pa_cons (pe_op op_fdivW (pv 4) (pv 1)) pa_nil)) (pe_callTy call_int1 (by rfl) T.n_int (by decide +kernel) (pa_cons (pe_cmpR op_ge (pv 4) (pv 1) (nomark _)) pa_nil))) (pe_slice sl_list (pe_ix ix_list (pv 0) pe_int (fun _ _ => rfl)) (po_some pe_int) po_none)) (pg_sub (pv 0) pe_int set_list))
    (pss_one (ps_ret (pe_op op_mod (pv 4) (pv 1)))))) pss_nil)
    (pss_cons (ps_asg (pe_op op_add (pe_ix ix_list (pv 0) pe_int (fun _ _ => rfl)) pe_int) (pg_sub (pv 0) pe_int set_list))
    (pss_cons (ps_set (i := 2) sc_law_draw.nd rfl (by first | exact Or.inl rfl | exact Or.inr rfl) (pe_ix ix_list (pe_ix ix_list (pv 0) pe_int (fun _ _ => rfl)) (pe_op op_mod (pe_ix ix_list (pv 0) pe_int (fun _ _ => rfl)) (pe_callB call_len_seq (by rfl) T.n_len (by decide +kernel) (pa_cons (pe_ix ix_list (pv 0) pe_int (fun _ _ => rfl)) pa_nil))) (fun _ _ => rfl)))
    (pss_cons (ps_set (i := 3) sc_law_draw.nd rfl (by first | exact Or.inl rfl | exact Or.inr rfl) (pe_op op_add (pe_op op_add (pe_op op_mulW (pe_ix ix_list (pv 0) pe_int (fun _ _ => rfl)) (pe_ix ix_list (pv 0) pe_int (fun _ _ => rfl))) (pe_op op_mul (pe_op op_add (pv 2) pe_int) pe_int)) (pe_op op_mul (pe_ix ix_list (pv 0) pe_int (fun _ _ => rfl)) pe_int)))
    (pss_cons (ps_asg (pe_op op_mod (pv 3) (pe_op op_sub (pe_op op_mul (pe_op op_pow pe_int pe_int) (pe_op op_pow pe_int pe_int)) pe_int)) (pg_sub (pv 0) pe_int set_list))
    (pss_one (ps_ret (pe_op op_mod (pe_op op_fdivW (pe_ix ix_list (pv 0) pe_int (fun _ _ => rfl)) (pe_op op_pow pe_int pe_int)) (pv 1))))))))), ?_⟩
    refine ⟨_, rfl, p, _, 0, _, rfl, rfl, .of hp, at40, Nat.zero_le _, fun e ne => ?_⟩
    have se := same_upd (o := .lst []) ne
    refine ⟨.list (gs.map PyData.int), .list [], .lst (.of (se _ _ hg)) (dp_intl gs), .lst (.of upd_same) .nil, shaped_intl gs, shaped_nil, _, rfl, ?_⟩
    rw [eqv_nilI]
    replace hp := se _ _ hp
    replace hg := se _ _ hg
    replace hc := se _ _ hc
    have z1 := z0.same se
    generalize L2.upd H e (.lst []) = H1 at *
    cases gs with
    | cons x t =>
      refine iteP rfl ?_
      have x0 := g0 x (List.mem_cons_self ..)
      refine ⟨_, rfl, p, _, 0, _, rfl, rfl, .of hp, at40, g, _, 0, _, rfl, rfl, .of hg, atI_ofR (Int.le_refl _) rfl, ?_⟩
      refine ⟨_, rfl, _, rfl, _, _, rfl, rfl, wide_div (by omega) m2 (by decide) (by decide), (by show 1 ≤ sizeLine; decide), fun l1 n1 => ?_⟩
      have u1 := same_upd (o := .lst [.int (x / m)]) n1
      refine ⟨_, rfl, _, rfl, _, _, rfl, rfl, .inr ⟨_, rfl, l1, _, _, rfl, rfl, upd_same, ?_⟩⟩
      have hk : ∃ k : Nat, k ≤ 1 ∧ (if decide (m ≤ x) = true then (1 : Int) else 0) = (k : Int) := by
        by_cases y : m ≤ x
        · exact ⟨1, Nat.le_refl _, by rw [decide_eq_true y]; rfl⟩
        · exact ⟨0, Nat.zero_le _, by rw [decide_eq_false y]; rfl⟩
      obtain ⟨k, k1, ek⟩ := hk
      rw [show (if decide (x ≥ m) = true then (1 : Int) else 0) = (k : Int) from ek]
      refine ⟨by omega, by omega, ?_, fun l2 n2 => ?_⟩
      · rw [Int.toNat_natCast]
        show 1 * k ≤ sizeLine
        exact Nat.le_of_lt (small (by omega))
      rw [Int.toNat_natCast, show (List.replicate k [V.int (x / m)]).flatten = (List.replicate k (x / m)).map V.int by rw [List.map_replicate, List.flatten_replicate_singleton]]
      have u2 := same_upd (o := .lst ((List.replicate k (x / m)).map V.int)) n2
      refine ⟨_, rfl, p, _, 0, _, rfl, rfl, .of (u2 _ _ (u1 _ _ hp)), at40, _, rfl, g, _, rfl, SqL.of (u2 _ _ (u1 _ _ hg)), fun l3 n3 => ?_⟩
      rw [cut_dropR _ 1 (by omega) (by rw [List.length_map, List.length_cons]; omega), show ((x :: t).map V.int).drop (1 : Int).toNat = t.map V.int from rfl]
      have u3 := same_upd (o := .lst (t.map V.int)) n3
      refine ⟨l2, l3, _, _, rfl, rfl, u3 _ _ upd_same, upd_same, ?_, fun l4 n4 => ?_⟩
      · rw [List.length_map, List.length_map, List.length_replicate]
        rw [List.length_cons] at lg
        exact Nat.le_of_lt (small (by omega))
      have u4 := same_upd (o := .lst ((List.replicate k (x / m)).map V.int ++ t.map V.int)) n4
      have sA := u1.trans (u2.trans (u3.trans u4))
      refine ⟨_, rfl, p, _, 0, 0, rfl, rfl, sA _ _ hp, rfl, ?_⟩
      refine ⟨_, rfl, _, rfl, _, _, rfl, rfl, (by omega), ?_⟩
      have n4p : l4 ≠ p := (ne_of_none ((u1.trans (u2.trans u3)) _ _ hp) n4).symm
      refine q _ _ ⟨fun b o nb eb => ?_, fun D o eD oD => ?_⟩ ⟨l4, c, List.replicate k (x / m) ++ t, cs, n, s, upd_same, ?_, ?_, ?_, ?_, lc, lc2, n0, s0, s1⟩ (Int.emod_nonneg _ (by omega)) (Int.emod_lt_of_pos _ (by omega))
      · rw [upd_ne nb]
        exact sA _ _ (se _ _ eb)
      · obtain ⟨g', c', i', t', hp', e1, e2, e3⟩ := oD.same se
        rw [hp] at hp'
        cases hp'
        refine ⟨l4, c, n, s, upd_same, e1, ?_, e3⟩
        exact ne_of_none ((u1.trans (u2.trans u3)) _ _ (se _ _ eD)) n4
      · rw [upd_ne n4p, upd_same, List.map_append]
      · rw [upd_ne (ne_of hc hp (fun q => not_ints q.symm))]
        exact sA _ _ hc
      · rw [List.length_append, List.length_replicate]
        rw [List.length_cons] at lg
        omega
      · intro y hy
        rcases List.mem_append.mp hy with h | h
        · rw [List.eq_of_mem_replicate h]
          exact Int.ediv_nonneg x0 (by omega)
        · exact g0 y (List.mem_cons_of_mem _ h)
    | nil =>
      refine iteN rfl ?_
      refine ⟨_, rfl, p, _, 2, _, rfl, rfl, .of hp, at42, _, _, rfl, rfl, ?_⟩
      refine ⟨_, rfl, p, _, 2, 2, rfl, rfl, hp, rfl, ?_⟩
      have np : c ≠ p := ne_of hc hp (fun q => not_ints q.symm)
      have h2 : (L2.upd H1 p (.lst [.ref g, .ref c, .int (n + 1), .int s])) p = some (.lst [.ref g, .ref c, .int (n + 1), .int s]) := upd_same
      have hc2 : (L2.upd H1 p (.lst [.ref g, .ref c, .int (n + 1), .int s])) c = some (.lst (cs.map V.int)) := by rw [upd_ne np]; exact hc
      have ix0 := Int.emod_nonneg (n + 1) (b := (cs.length : Int)) (by omega)
      have ix1 := Int.emod_lt_of_pos (n + 1) (b := (cs.length : Int)) (by omega)
      obtain ⟨x, hx⟩ : ∃ x, cs[((n + 1) % (cs.length : Int)).toNat]? = some x := ⟨_, List.getElem?_eq_getElem (by omega)⟩
      have hx2 : (cs.map V.int)[((n + 1) % (cs.length : Int)).toNat]? = some (.int x) := by rw [List.getElem?_map, hx]; rfl
      refine ⟨_, rfl, p, _, 1, _, rfl, rfl, .of h2, at41, _, rfl, p, _, 2, _, rfl, rfl, .of h2, at42, _, rfl, p, _, 1, _, rfl, rfl, .of h2, at41, c, _, rfl, .inl (.of hc2), ?_⟩
      rw [List.length_map]
      refine ⟨_, _, rfl, rfl, (by omega), c, _, _, _, rfl, rfl, .of hc2, atI_ofR ix0 hx2, ?_⟩
      refine ⟨_, rfl, p, _, 3, _, rfl, rfl, .of h2, at43, _, rfl, p, _, 3, _, rfl, rfl, .of h2, at43, _, _, rfl, rfl, wide_mul (a := 127) (b := 127) (by omega) (by omega) (by decide) (by decide) (by decide), _, rfl, _, _, rfl, rfl, _, _, rfl, rfl, .inr ⟨by decide, by decide⟩, _, _, rfl, rfl, _, rfl, p, _, 2, _, rfl, rfl, .of h2, at42, _, _, rfl, rfl, .inr ⟨by decide, by decide⟩, _, _, rfl, rfl, ?_⟩
      refine ⟨_, rfl, _, _, rfl, rfl, ⟨by decide, by decide, by decide⟩, _, _, rfl, rfl, ⟨by decide, by decide, by decide⟩, _, _, rfl, rfl, .inr ⟨by decide +kernel, by decide +kernel⟩, _, _, rfl, rfl, _, _, rfl, rfl, ?_, ?_⟩
      · rw [p127]
        show (0 : Int) < 170141183460469231731687303715884105727
        decide
      rw [p127]
      refine ⟨_, rfl, p, _, 3, 3, rfl, rfl, h2, rfl, ?_⟩
      have h3 : ∀ y : Int, (L2.upd (L2.upd H1 p (.lst [.ref g, .ref c, .int (n + 1), .int s])) p (.lst [.ref g, .ref c, .int (n + 1), .int y])) p = some (.lst [.ref g, .ref c, .int (n + 1), .int y]) := fun y => upd_same
      refine ⟨_, rfl, p, _, 3, _, rfl, rfl, .of (h3 _), at43, _, _, rfl, rfl, ⟨by decide, by decide, by decide⟩, _, _, rfl, rfl, wide_div (b := 64) (by decide) (by decide) (by decide) (by decide), _, rfl, _, _, rfl, rfl, (by omega), ?_⟩
      have ng : g ≠ p := ne_of hg hp (fun q => not_ints (l := []) q.symm)
      refine q _ _ ⟨fun b o nb eb => ?_, fun D o eD oD => ?_⟩ ⟨g, c, [], cs, n + 1, _, h3 _, ?_, ?_, Nat.zero_le _, (fun y h => by cases h), lc, lc2, by omega, Int.emod_nonneg _ (by decide), Int.emod_lt_of_pos _ (by decide)⟩ (Int.emod_nonneg _ (by omega)) (Int.emod_lt_of_pos _ (by omega))
      · rw [upd_ne nb, upd_ne nb]
        exact se _ _ eb
      · obtain ⟨g', c', i', t', hp', e1, e2, e3⟩ := oD.same se
        rw [hp] at hp'
        cases hp'
        exact ⟨g, c, _, _, h3 _, e1, e2, e3⟩
      · rw [upd_ne ng, upd_ne ng]
        exact hg
      · rw [upd_ne np, upd_ne np]
        exact hc
end
end UP

set_option Elab.async false
set_option linter.all false
set_option maxRecDepth 100000
set_option maxHeartbeats 4000000
namespace UP
open PySem PySem.Spec PyProof.Rows L2
theorem SqL.sameR {K : PySem.W.Frag} {H H' : Hp} {a : Addr} {xs : List V} (h : SqL K H a xs) (s : Same H H') : SqL K H' a xs := h.elim (fun z => .inl (z.elim (fun y => .inl (s _ _ y)) (fun ⟨o, y⟩ => .inr ⟨o, s _ _ y⟩))) (fun z => .inr z)
theorem erase_permR {α : Type} : ∀ (l : List α) (i : Nat) (h : i < l.length), (l[i] :: l.eraseIdx i).Perm l
  | [], i, h => absurd h (Nat.not_lt_zero _)
  | x :: t, 0, _ => List.Perm.refl _
  | x :: t, i + 1, h => by
    have h' : i < t.length := Nat.lt_of_succ_lt_succ h
    show (t[i] :: x :: t.eraseIdx i).Perm (x :: t)
    exact (List.Perm.swap x _ _).trans ((erase_permR t i h').cons x)
theorem cut63 (ns : List Int) : ∃ ms : List Int, cutV (ns.map V.int) none (some 63) = ms.map V.int ∧ ms.length ≤ 63 := by
  refine ⟨_, by unfold cutV; rw [← List.map_drop, ← List.map_take], ?_⟩
  rw [List.length_take, List.length_drop]
  have : HT.sIx (ns.map V.int).length (ns.map V.int).length (some 63) ≤ 63 := by
    have := HT.sIx_nat (ns.map V.int).length (ns.map V.int).length 63
    have e : HT.sIx (ns.map V.int).length (ns.map V.int).length (some 63) = HT.sIx (ns.map V.int).length (ns.map V.int).length (some ((63 : Nat) : Int)) := rfl
    rw [e, this]
    exact Nat.min_le_left ..
  omega
theorem int_at {ms : List Int} {i : Nat} {x : V} (h : (ms.map V.int)[i]? = some x) : ∃ n, x = .int n := by
  rw [List.getElem?_map] at h
  cases e : ms[i]? with
  | none =>
    rw [e] at h
    cases h
  | some n =>
    rw [e] at h
    exact ⟨n, (Option.some.inj h).symm⟩
section
variable {P : Program} {w : World} {K : PySem.W.Frag} {mg : Str → Option Value} {base : Heap}
/-! _law_reel: slots 0:script 1:stir 2:cell 3:great -/
abbrev s_law_reel : Stmt := topS 59
theorem sc_law_reel : FnScope ["script", "stir", "cell", "great"] ["script"] (defScope s_law_reel) := ⟨rfl, rfl, rfl, by decide +kernel, rfl, by decide +kernel, by decide +kernel⟩
def sp_law_reel (K : PySem.W.Frag) : Sp := fun vs H Q _ => ∃ (a : Addr) (ns : List Int), vs = [.ref a] ∧ SqL K H a (ns.map V.int) ∧ ∀ H' p, Same H H' → H p = none → Reel H' p → Q (.ref p) H'
theorem ok_law_reel (D : Df K mg "_law_reel" s_law_reel) (T : Tx mg) : Has P w K mg base 1 "_law_reel" ["script"] (sp_law_reel K) := by
  refine has_of D sc_law_reel (fun _ _ _ _ _ _ us hl => match us, hl with | [_], _ => rfl) (fun vs H Q E h => ?_) (fun f cdv A outer s₀ H vs Q E hr h => ?_)
  · obtain ⟨a, rs, rfl, _⟩ := h
    rfl
  · obtain ⟨a, ns, rfl, hS, q⟩ := h
    obtain ⟨ms, em, lm⟩ := cut63 ns
    refine ⟨_, (pss_cons (ps_set (i := 1) sc_law_reel.nd rfl (by first | exact Or.inl rfl | exact Or.inr rfl) (pe_op op_pow pe_int pe_int))
    (pss_cons (ps_for PassesOwn.never rfl (pi_list (pe_slice sl_list (pv 0) po_none (po_some pe_int))) (pg_name (i := 2) sc_law_reel.nd rfl (by first | exact Or.inl rfl | exact Or.inr rfl))
      (pss_one (ps_set (i := 1) sc_law_reel.nd rfl (by first | exact Or.inl rfl | exact Or.inr rfl) (pe_op op_mod (pe_op op_add (pe_op op_add (pe_op op_mulW (pv 1) (pv 1)) (pe_op op_mod (pv 2) pe_int)) pe_int) (pe_op op_sub (pe_op op_mul (pe_op op_pow pe_int pe_int) (pe_op op_pow pe_int pe_int)) pe_int)))))
    (pss_cons (ps_setLc (i := 3) (own := [("cell", 2)]) rfl sc_law_reel.nd rfl rfl (sw_true rfl rfl rfl (by decide +kernel)) (pi_list (pe_slice sl_list (pv 0) po_none (po_some pe_int))) (blkOk_by (N := ["script", "stir", "cell", "great"]) (sc := defScope s_law_reel) (by decide +kernel)) (fun _ _ _ _ _ => (pg_name (i := 2) sc_law_reel.nd rfl (by first | exact Or.inl rfl | exact Or.inr rfl))) (fun _ _ _ _ _ => pts_one (pt_cmpR op_ge (pv 2) (pe_op op_pow pe_int pe_int) (nomark _))) (fun _ _ _ _ _ => (pe_op op_sub (pv 2) (pe_op op_pow pe_int pe_int))))
    (pss_one (ps_ret (pe_lst (pa_cons (pv 3) (pa_cons (pe_op op_cat (pe_lc (own := [("cell", 2)]) rfl sc_law_reel.nd (pi_list (pe_slice sl_list (pv 0) po_none (po_some pe_int))) (blkOk_by (N := ["script", "stir", "cell", "great"]) (sc := defScope s_law_reel) (by decide +kernel)) (fun _ _ _ _ _ => (pg_name (i := 2) sc_law_reel.nd rfl (by first | exact Or.inl rfl | exact Or.inr rfl))) (fun _ _ _ _ _ => pts_nil) (fun _ _ _ _ _ => (pe_op op_mod (pv 2) pe_int))) (pe_lst (pa_cons pe_int pa_nil))) (pa_cons pe_int (pa_cons (pv 1) pa_nil)))))))))), ?_⟩
    refine ⟨_, _, rfl, rfl, ⟨by decide, by decide, by decide⟩, ?_⟩
    refine ⟨_, rfl, _, rfl, a, _, rfl, hS, fun c nc => ?_⟩
    rw [em]
    have sc : Same H (upd H c (.lst (ms.map V.int))) := same_upd nc
    refine ⟨c, rfl, ⟨_, .of upd_same⟩, for_list (K := K) (a := c) (xs := ms.map V.int) (fun i σ H' => ∃ s y2, σ = [some (.ref a), some (.int s), y2, none] ∧ H' = upd H c (.lst (ms.map V.int)) ∧ 0 ≤ s ∧ s < 170141183460469231731687303715884105727)
      ⟨_, none, rfl, rfl, by decide +kernel, by decide +kernel⟩ (fun i σ H' _ hP => ?_) (fun i x σ H4 ex hP => ?_) (fun σ H4 hP => ?_)⟩
    · obtain ⟨_, _, _, rfl, _⟩ := hP
      exact .of upd_same
    · obtain ⟨s, y2, rfl, rfl, s0, s1⟩ := hP
      obtain ⟨n, rfl⟩ := int_at ex
      refine ⟨_, rfl, _, rfl, _, _, rfl, rfl, wide_mul (a := 127) (b := 127) (by omega) (by omega) (by decide) (by decide) (by decide), _, rfl, _, _, rfl, rfl, (by show (0 : Int) < 1000000000000000003; decide), _, _, rfl, rfl, _, _, rfl, rfl, _, _, rfl, rfl, ⟨by decide, by decide, by decide⟩, _, _, rfl, rfl, ⟨by decide, by decide, by decide⟩, _, _, rfl, rfl, .inr ⟨by decide +kernel, by decide +kernel⟩, _, _, rfl, rfl, _, _, rfl, rfl, ?_, ?_⟩
      · rw [p127]
        show (0 : Int) < 170141183460469231731687303715884105727
        decide
      rw [p127]
      exact ⟨_, _, rfl, rfl, Int.emod_nonneg _ (by decide), Int.emod_lt_of_pos _ (by decide)⟩
    · obtain ⟨s, y2, rfl, rfl, s0, s1⟩ := hP
      generalize upd H c (.lst (ms.map V.int)) = H1 at *
      refine ⟨_, rfl, _, rfl, a, _, rfl, SqL.sameR hS sc, fun c2 nc2 => ?_⟩
      rw [em]
      have sc2 : Same H1 (upd H1 c2 (.lst (ms.map V.int))) := same_upd nc2
      refine ⟨c2, rfl, ⟨_, .of upd_same⟩, fun L nL => lc_list (K := K) (a := c2) (xs := ms.map V.int) (fun i H' => Same (upd H1 c2 (.lst (ms.map V.int))) H' ∧ ∃ gs : List Int, H' L = some (.lst (gs.map V.int)) ∧ gs.length ≤ i ∧ ∀ x ∈ gs, 0 ≤ x)
        ⟨same_upd nL, [], upd_same, Nat.le_refl _, fun x h => by cases h⟩ (fun i H' _ p => .of (p.1 _ _ upd_same)) (fun i x H5 ex hP => ?_) (fun H5 hP => ?_)⟩
      · obtain ⟨s5, gs, hL, lg, g0⟩ := hP
        have hi : i < ms.length := by
          have := (List.getElem?_eq_some_iff.mp ex).1
          rw [List.length_map] at this
          exact this
        obtain ⟨n, rfl⟩ := int_at ex
        refine ⟨rfl, _, rfl, _, _, rfl, rfl, ⟨by decide, by decide, by decide⟩, _, _, rfl, rfl, _, rfl, ite2 (fun e => ?_) (fun e => ?_)⟩
        · have e : (10 : Int) ^ ((18 : Int).toNat) ≤ n := of_decide_eq_true e
          refine ⟨_, rfl, _, _, rfl, rfl, ⟨by decide, by decide, by decide⟩, _, _, rfl, rfl, _, hL, ?_, same_grow nL s5, gs ++ [n - (10 : Int) ^ ((18 : Int).toNat)], ?_, ?_, ?_⟩
          · rw [List.length_map]
            exact small (by omega)
          · rw [upd_same, List.map_append]
            rfl
          · rw [List.length_append]
            show gs.length + 1 ≤ i + 1
            omega
          · intro x hx
            rcases List.mem_append.mp hx with h | h
            · exact g0 x h
            · rw [List.mem_singleton.mp h]
              omega
        · exact ⟨s5, gs, hL, by omega, g0⟩
      · obtain ⟨s5, gs, hL, lg, g0⟩ := hP
        rw [List.length_map] at lg
        refine ⟨_, rfl, ?_⟩
        have sB : Same H1 H5 := sc2.trans s5
        refine ⟨_, rfl, _, rfl, a, _, rfl, SqL.sameR (SqL.sameR hS sc) sB, fun c3 nc3 => ?_⟩
        rw [em]
        have sc3 : Same H5 (upd H5 c3 (.lst (ms.map V.int))) := same_upd nc3
        refine ⟨c3, rfl, ⟨_, .of upd_same⟩, fun M nM => lc_list (K := K) (a := c3) (xs := ms.map V.int) (fun i H' => Same (upd H5 c3 (.lst (ms.map V.int))) H' ∧ ∃ cs : List Int, H' M = some (.lst (cs.map V.int)) ∧ cs.length = i)
          ⟨same_upd nM, [], upd_same, rfl⟩ (fun i H' _ p => .of (p.1 _ _ upd_same)) (fun i x H6 ex hP => ?_) (fun H6 hP => ?_)⟩
        · obtain ⟨s6, cs, hM, lc⟩ := hP
          have hi : i < ms.length := by
            have := (List.getElem?_eq_some_iff.mp ex).1
            rw [List.length_map] at this
            exact this
          obtain ⟨n, rfl⟩ := int_at ex
          refine ⟨rfl, yesT ⟨_, rfl, _, _, rfl, rfl, (by show (0 : Int) < 1000003; decide), _, hM, ?_, same_grow nM s6, cs ++ [n % 1000003], ?_, ?_⟩⟩
          · rw [List.length_map]
            exact small (by omega)
          · rw [upd_same, List.map_append]
            rfl
          · rw [List.length_append, lc]
            rfl
        · obtain ⟨s6, cs, hM, lc⟩ := hP
          rw [List.length_map] at lc
          refine ⟨(by show 1 ≤ sizeLine; decide), fun o no => ?_⟩
          have s7 := same_upd (o := .lst [.int 57]) no
          refine ⟨M, o, _, _, rfl, rfl, s7 _ _ hM, upd_same, ?_, fun r nr => ?_⟩
          · rw [List.length_map]
            show cs.length + 1 ≤ sizeLine
            exact Nat.le_of_lt (small (by omega))
          have s8 := same_upd (o := .lst (cs.map V.int ++ [.int 57])) nr
          refine ⟨_, rfl, (by show 4 ≤ sizeLine; decide), fun p np => ?_⟩
          have s9 := same_upd (o := .lst [.ref L, .ref r, .int 0, .int s]) np
          have sC := sc3.trans (s6.trans (s7.trans s8))
          have sT : Same H _ := sc.trans (sB.trans sC)
          refine q _ p (sT.trans s9) (sT.free np) ⟨L, r, gs, cs ++ [57], 0, s, upd_same, s9 _ _ (sC _ _ hL), ?_, by omega, g0, ?_, ?_, Int.le_refl _, s0, s1⟩
          · rw [s9 _ _ upd_same, List.map_append]
            rfl
          · rw [List.length_append]
            exact Nat.succ_pos _
          · rw [List.length_append]
            show cs.length + 1 ≤ 64
            omega
end
end UP

set_option Elab.async false
set_option linter.all false
set_option maxRecDepth 100000
set_option maxHeartbeats 4000000
namespace UP
open PySem PySem.Spec PyProof.Rows L2
/-! ### distances -/
def kdV : Option Run → V
  | none => .non
  | some r => .str r.1
def distR (a b : Option Run) : Int := if kdV a = kdV b then (if numR a - numR b < 0 then -(numR a - numR b) else numR a - numR b) else numR a + numR b
theorem dist_ss (r s : Run) : distR (some r) (some s) = if r.1 = s.1 then (if r.2 - s.2 < 0 then -(r.2 - s.2) else r.2 - s.2) else r.2 + s.2 := by
  unfold distR
  by_cases e : r.1 = s.1
  · rw [if_pos e, if_pos (by show V.str r.1 = V.str s.1; rw [e])]
    rfl
  · rw [if_neg e, if_neg (show ¬ kdV (some r) = kdV (some s) from fun z => e (V.str.inj z))]
    rfl
theorem dist_nn : distR none none = 0 := rfl
theorem dist_ns (r : Run) : distR none (some r) = r.2 := by
  unfold distR
  rw [if_neg (by intro z; cases z)]
  show 0 + r.2 = r.2
  omega
theorem dist_sn (r : Run) : distR (some r) none = r.2 := by
  unfold distR
  rw [if_neg (by intro z; cases z)]
  show r.2 + 0 = r.2
  omega
theorem dist_comm (a b : Option Run) : distR a b = distR b a := by
  cases a with
  | none =>
    cases b with
    | none => rfl
    | some s => rw [dist_ns, dist_sn]
  | some r =>
    cases b with
    | none => rw [dist_ns, dist_sn]
    | some s =>
      rw [dist_ss, dist_ss]
      by_cases e : r.1 = s.1
      · rw [if_pos e, if_pos e.symm]
        split <;> split <;> omega
      · rw [if_neg e, if_neg fun z => e z.symm]
        omega
theorem dist_zero {a b : Option Run} (pa : PosO a) (pb : PosO b) : distR a b = 0 ↔ a = b := by
  cases a with
  | none =>
    cases b with
    | none => exact ⟨fun _ => rfl, fun _ => rfl⟩
    | some s =>
      have := pb s rfl
      rw [dist_ns]
      exact ⟨fun z => by omega, fun z => by cases z⟩
  | some r =>
    have h1 := pa r rfl
    cases b with
    | none =>
      rw [dist_sn]
      exact ⟨fun z => by omega, fun z => by cases z⟩
    | some s =>
      have h2 := pb s rfl
      rw [dist_ss]
      constructor
      · intro z
        by_cases e : r.1 = s.1
        · rw [if_pos e] at z
          have : r.2 = s.2 := by
            split at z <;> omega
          rw [show r = s from Prod.ext e this]
        · rw [if_neg e] at z
          omega
      · intro z
        cases z
        rw [if_pos rfl]
        split <;> omega
theorem dist_tri {a b c : Option Run} (pa : PosO a) (pb : PosO b) (pc : PosO c) : ¬ distR a c + distR c b < distR a b := by
  cases a with
  | none =>
    cases b with
    | none =>
      cases c with
      | none => rw [dist_nn]; omega
      | some t =>
        have := pc t rfl
        rw [dist_nn, dist_ns, dist_sn]
        omega
    | some s =>
      have h2 := pb s rfl
      cases c with
      | none => rw [dist_nn, dist_ns]; omega
      | some t =>
        have := pc t rfl
        rw [dist_ns, dist_ss, dist_ns]
        split
        · split <;> omega
        · omega
  | some r =>
    have h1 := pa r rfl
    cases b with
    | none =>
      cases c with
      | none => rw [dist_nn, dist_sn]; omega
      | some t =>
        have := pc t rfl
        rw [dist_sn, dist_sn, dist_ss]
        split
        · split <;> omega
        · omega
    | some s =>
      have h2 := pb s rfl
      cases c with
      | none =>
        rw [dist_sn, dist_ns, dist_ss]
        split
        · split <;> omega
        · omega
      | some t =>
        have h3 := pc t rfl
        rw [dist_ss, dist_ss, dist_ss]
        by_cases e1 : r.1 = t.1
        · by_cases e2 : t.1 = s.1
          · rw [if_pos e1, if_pos e2, if_pos (e1.trans e2)]
            split <;> split <;> split <;> omega
          · rw [if_pos e1, if_neg e2, if_neg (fun z => e2 (e1.symm.trans z))]
            split <;> omega
        · by_cases e2 : t.1 = s.1
          · rw [if_neg e1, if_pos e2, if_neg (show ¬ r.1 = s.1 from fun z => e1 (z.trans e2.symm))]
            split <;> omega
          · rw [if_neg e1, if_neg e2]
            split
            · split <;> omega
            · omega
/-- one arrival: the distance stays or falls by 2 -/
theorem dist_step {a b : Option Run} {k : Str} (pa : PosO a) (pb : PosO b) : distR (stepR a k 1) (stepR b k 1) = distR a b ∨ distR (stepR a k 1) (stepR b k 1) = distR a b - 2 := by
  have sn : stepR none k 1 = some (k, 1) := rfl
  have sp : ∀ r : Run, 1 ≤ r.2 → (r.1 = k ∧ stepR (some r) k 1 = some (k, r.2 + 1)) ∨ (r.1 ≠ k ∧ 2 ≤ r.2 ∧ stepR (some r) k 1 = some (r.1, r.2 - 1)) ∨ (r.1 ≠ k ∧ r.2 = 1 ∧ stepR (some r) k 1 = none) := by
    intro r h
    by_cases e : r.1 = k
    · exact .inl ⟨e, if_pos e⟩
    · have es : stepR (some r) k 1 = if 0 < r.2 - 1 then some (r.1, r.2 - 1) else if r.2 - 1 = 0 then none else some (k, -(r.2 - 1)) := if_neg e
      by_cases g : 2 ≤ r.2
      · rw [if_pos (by omega)] at es
        exact .inr (.inl ⟨e, g, es⟩)
      · rw [if_neg (by omega), if_pos (by omega)] at es
        exact .inr (.inr ⟨e, by omega, es⟩)
  cases a with
  | none =>
    cases b with
    | none =>
      rw [sn, dist_ss, if_pos rfl, dist_nn]
      left
      split <;> omega
    | some s =>
      have h2 := pb s rfl
      rcases sp s h2 with ⟨e, es⟩ | ⟨e, g, es⟩ | ⟨e, g, es⟩
      · rw [sn, es, dist_ss, dist_ns, if_pos rfl]
        left
        show (if 1 - (s.2 + 1) < 0 then -(1 - (s.2 + 1)) else 1 - (s.2 + 1)) = s.2
        split <;> omega
      · rw [sn, es, dist_ss, dist_ns, if_neg fun z => e z.symm]
        left
        show 1 + (s.2 - 1) = s.2
        omega
      · rw [sn, es, dist_sn, dist_ns]
        left
        show 1 = s.2
        omega
  | some r =>
    have h1 := pa r rfl
    cases b with
    | none =>
      rcases sp r h1 with ⟨e, es⟩ | ⟨e, g, es⟩ | ⟨e, g, es⟩
      · rw [sn, es, dist_ss, dist_sn, if_pos rfl]
        left
        show (if r.2 + 1 - 1 < 0 then -(r.2 + 1 - 1) else r.2 + 1 - 1) = r.2
        split <;> omega
      · rw [sn, es, dist_ss, dist_sn, if_neg e]
        left
        show r.2 - 1 + 1 = r.2
        omega
      · rw [sn, es, dist_ns, dist_sn]
        left
        show 1 = r.2
        omega
    | some s =>
      have h2 := pb s rfl
      rw [dist_ss r s]
      rcases sp r h1 with ⟨e, es⟩ | ⟨e, g, es⟩ | ⟨e, g, es⟩
      · rcases sp s h2 with ⟨f, fs⟩ | ⟨f, j, fs⟩ | ⟨f, j, fs⟩
        · rw [es, fs, dist_ss, if_pos rfl, if_pos (e.trans f.symm)]
          left
          show (if r.2 + 1 - (s.2 + 1) < 0 then -(r.2 + 1 - (s.2 + 1)) else r.2 + 1 - (s.2 + 1)) = _
          split <;> split <;> omega
        · rw [es, fs, dist_ss, if_neg (fun z => f z.symm), if_neg (fun z => f (z.symm.trans e))]
          left
          show r.2 + 1 + (s.2 - 1) = _
          omega
        · rw [es, fs, dist_sn, if_neg (fun z => f (z.symm.trans e))]
          left
          show r.2 + 1 = _
          omega
      · rcases sp s h2 with ⟨f, fs⟩ | ⟨f, j, fs⟩ | ⟨f, j, fs⟩
        · rw [es, fs, dist_ss, if_neg e, if_neg (fun z => e (z.trans f))]
          left
          show r.2 - 1 + (s.2 + 1) = _
          omega
        · rw [es, fs, dist_ss]
          show (if r.1 = s.1 then (if r.2 - 1 - (s.2 - 1) < 0 then -(r.2 - 1 - (s.2 - 1)) else r.2 - 1 - (s.2 - 1)) else r.2 - 1 + (s.2 - 1)) = _ ∨ (if r.1 = s.1 then (if r.2 - 1 - (s.2 - 1) < 0 then -(r.2 - 1 - (s.2 - 1)) else r.2 - 1 - (s.2 - 1)) else r.2 - 1 + (s.2 - 1)) = _
          by_cases u : r.1 = s.1
          · rw [if_pos u, if_pos u]
            left
            split <;> split <;> omega
          · rw [if_neg u, if_neg u]
            right
            omega
        · rw [es, fs, dist_sn]
          show r.2 - 1 = _ ∨ r.2 - 1 = _
          by_cases u : r.1 = s.1
          · rw [if_pos u]
            left
            split <;> omega
          · rw [if_neg u]
            right
            omega
      · rcases sp s h2 with ⟨f, fs⟩ | ⟨f, j, fs⟩ | ⟨f, j, fs⟩
        · rw [es, fs, dist_ns, if_neg (fun z => e (z.trans f))]
          left
          show s.2 + 1 = _
          omega
        · rw [es, fs, dist_ns]
          show s.2 - 1 = _ ∨ s.2 - 1 = _
          by_cases u : r.1 = s.1
          · rw [if_pos u]
            left
            split <;> omega
          · rw [if_neg u]
            right
            omega
        · rw [es, fs, dist_nn]
          by_cases u : r.1 = s.1
          · rw [if_pos u]
            left
            split <;> omega
          · rw [if_neg u]
            right
            omega
section
variable {P : Program} {w : World} {K : PySem.W.Frag} {mg : Str → Option Value} {base : Heap}
end
end UP

set_option Elab.async false
set_option linter.all false
set_option maxRecDepth 100000
set_option maxHeartbeats 4000000
namespace UP
open PySem PySem.Spec PyProof.Rows L2
theorem RB.rung {p : Addr} {H H' : Hp} {v : V} {r : Run} (b : RB p H H') (z : Reel H p) (h : RunG H v r) : RunG H' v r := by
  obtain ⟨t, e, h⟩ := h
  obtain ⟨_, _, _, _, _, _, hp, _⟩ := z
  refine ⟨t, e, h.elim (fun y => .inl (b.but _ _ (ne_of y hp (by intro q; cases q)) y)) (fun y => .inr (b.but _ _ (ne_of y hp (by intro q; cases q)) y))⟩
theorem RB.stg {p : Addr} {H H' : Hp} {v : V} {st : Option Run} (b : RB p H H') (z : Reel H p) (h : StG H v st) : StG H' v st := by
  cases st with
  | none => exact h
  | some r => exact b.rung z h
theorem stOk_step {a : Option Run} {k : Str} (h : StOk a) (kk : KindOk k) : StOk (stepR a k 1) := by
  intro r e
  have p := stepR_pos (k := k) (c := 1) (fun r e => (h r e).2) (by decide) r e
  refine ⟨?_, p⟩
  cases a with
  | none =>
    cases e
    exact kk
  | some s =>
    have hs := h s rfl
    by_cases e1 : s.1 = k
    · rw [show stepR (some s) k 1 = some (k, s.2 + 1) from if_pos e1] at e
      cases e
      exact kk
    · rw [show stepR (some s) k 1 = if 0 < s.2 - 1 then some (s.1, s.2 - 1) else if s.2 - 1 = 0 then none else some (k, -(s.2 - 1)) from if_neg e1] at e
      split at e
      · cases e
        exact hs.1
      · split at e
        · cases e
        · cases e
          exact kk
def dOt : Option Run → PyData
  | none => .none
  | some r => dRun r
theorem dp_o {K : PySem.W.Frag} {H : Hp} {v : V} {st : Option Run} (h : StV H v st) : Dp K H v (dOt st) := by
  cases st with
  | none =>
    cases h
    exact .non
  | some r => exact dp_run h
theorem shaped_o {st : Option Run} (h : StOk st) : SeqAt.shaped (dOt st) = true := by
  cases st with
  | none => decide
  | some r => exact shaped_run (h r rfl).1
theorem eqv_o (a b : Option Run) : PyData.eqv (dOt a) (dOt b) = decide (a = b) := by
  cases a with
  | none =>
    cases b with
    | none => simp [dOt, PyData.eqv]
    | some s => simp [dOt, dRun, PyData.eqv]
  | some r =>
    cases b with
    | none => simp [dOt, dRun, PyData.eqv]
    | some s =>
      obtain ⟨r1, r2⟩ := r
      obtain ⟨s1, s2⟩ := s
      simp [dOt, dRun, PyData.eqv, PyData.eqvAll]
      rw [Bool.eq_iff_iff]
      simp
theorem dps_stN {K : PySem.W.Frag} {H : Hp} {v : V} {st : Option Run} (h : StG H v st) (k : ∀ r, st = some r → KindOk r.1 ∧ r.2.natAbs < 10 ^ 60) : ∃ d, DpS K H v d ∧ Nice 404 1 d := by
  cases st with
  | none =>
    cases h
    exact ⟨.none, fun _ _ => .non, nice_none.mono (by decide) (by decide)⟩
  | some r => exact dps_run (K := K) h (k r rfl).1 (k r rfl).2
theorem nice_il {w : Nat} {l : List Int} (h : ∀ x ∈ l, x.natAbs < 10 ^ 60) (hw : 202 * l.length ≤ w) : Nice w 1 (.list (l.map PyData.int)) := by
  have := nice_list (w := 201) (n := 0) (ds := l.map PyData.int) fun d hd => by
    obtain ⟨x, hx, rfl⟩ := List.mem_map.mp hd
    exact nice_int (h x hx)
  exact this.mono (by rw [List.length_map]; omega) (Nat.le_refl _)
theorem dist_bd {a b : Option Run} (pa : PosO a) (pb : PosO b) {m : Int} (ha : ∀ r, a = some r → r.2 ≤ m) (hb : ∀ r, b = some r → r.2 ≤ m) (m0 : 0 ≤ m) : 0 ≤ distR a b ∧ distR a b ≤ 2 * m := by
  cases a with
  | none =>
    cases b with
    | none => rw [dist_nn]; omega
    | some s =>
      have := pb s rfl
      have := hb s rfl
      rw [dist_ns]; omega
  | some r =>
    have h1 := pa r rfl
    have h2 := ha r rfl
    cases b with
    | none => rw [dist_sn]; omega
    | some s =>
      have := pb s rfl
      have := hb s rfl
      rw [dist_ss]
      split
      · split <;> omega
      · omega
theorem p39 : (10 : Int) ^ ((39 : Int).toNat) = 1000000000000000000000000000000000000000 := by decide +kernel
end UP

set_option Elab.async false
set_option linter.all false
set_option maxRecDepth 100000
set_option maxHeartbeats 4000000
namespace UP
open PySem PySem.Spec PyProof.Rows L2
/-! ### repr of values that hold an empty dict -/
mutual
def Dat.py : Dat → PyData
  | .non => .none
  | .bl b => .bool b
  | .int n => .int n
  | .str z => .str z
  | .dic => .dict []
  | .lst l => .list (Dat.pys l)
  | .tup l => .tuple (Dat.pys l)
def Dat.pys : List Dat → List PyData
  | [] => []
  | x :: t => x.py :: Dat.pys t
end
def RpK (prog : Program) (w : World) (h : Heap) (u : Value) (d : PyData) : Prop :=
  (∃ as, Reads h u d as) ∧ (d.showable = true → d.shown.length ≤ sizeLine → ∃ bs, ReadAtMost h d.depth bs ∧ ReprK prog w bs h d.depth u d.shown)
def RpKs (prog : Program) (w : World) (h : Heap) (us : List Value) (ds : List PyData) : Prop :=
  (∃ as, ReadsAll h us ds as) ∧ (PyData.showableAll ds = true → (∀ t ∈ PyData.shownAll ds, t.length ≤ sizeLine) → ∃ bs, ReadAtMost h (PyData.depthAll ds) bs ∧ ReprAllK prog w bs h (PyData.depthAll ds) us (PyData.shownAll ds))
theorem dic_reads {X : Cx} {pins : List (Addr × Obj)} {σ : L2.St} {H : Hp} {s : Shared} {a : Addr} (I : Inv X pins σ H s) (e : H a = some (.dK [])) : ∃ o n, s.heap.get? a = some o ∧ o.cls = .type "dict" ∧ o.data = .dict #[] n ∧ (a == sysModules) = false := by
  obtain ⟨_, hs, vs, kv, o, es, ep, ho, ex, hd, _, hp, _⟩ := dk_of I.hok e
  cases kv
  obtain ⟨l⟩ := es
  have hp : Pairs (mixKind X.prog X.w) l [] := hp
  cases l with
  | nil => exact ⟨o, ep, ho, ex.1, hd, hs⟩
  | cons x t => cases hp
theorem RpKs.cons {prog : Program} {w : World} {h : Heap} {u : Value} {us : List Value} {d : PyData} {ds : List PyData} (h1 : RpK prog w h u d) (h2 : RpKs prog w h us ds) : RpKs prog w h (u :: us) (d :: ds) := by
  obtain ⟨⟨as, r⟩, k1⟩ := h1
  obtain ⟨⟨bs, rs⟩, k2⟩ := h2
  refine ⟨⟨_, .cons r rs⟩, fun hs hz => ?_⟩
  have hs' : d.showable = true ∧ PyData.showableAll ds = true := by simpa [PyData.showableAll] using hs
  obtain ⟨b1, hb1, k1⟩ := k1 hs'.1 (hz _ (by simp only [PyData.shownAll]; exact List.mem_cons_self ..))
  obtain ⟨b2, hb2, k2⟩ := k2 hs'.2 (fun t ht => hz t (by simp only [PyData.shownAll]; exact List.mem_cons_of_mem _ ht))
  refine ⟨b1 ++ b2, ?_, ?_⟩
  · simp only [PyData.depthAll]
    exact (hb1.mono (Nat.le_max_left _ _)).append (hb2.mono (Nat.le_max_right _ _))
  · simp only [PyData.depthAll, PyData.shownAll]
    exact .cons ((k1.more fun b hb => List.mem_append_left _ hb).level_le (Nat.le_max_left _ _)) (k2.more_le (fun b hb => List.mem_append_right _ hb) (Nat.le_max_right _ _))
theorem RpK.list {prog : Program} {w : World} {h : Heap} {a : Addr} {o : Obj} {its : List Value} {n : Nat} {ds : List PyData} (h1 : h.get? a = some o) (h2 : o.cls = .type "list") (h3 : o.data = .seq its.toArray n) (k : RpKs prog w h its ds) : RpK prog w h (.ref a) (.list ds) := by
  obtain ⟨⟨as, h4⟩, k⟩ := k
  have r : Reads h (.ref a) (.list ds) _ := .list h1 h2 h3 h4
  refine ⟨⟨_, r⟩, fun hs hz => ?_⟩
  have hz' : (listText (PyData.shownAll ds)).length ≤ sizeLine := by simpa only [PyData.shown] using hz
  obtain ⟨bs, hb, hk⟩ := k (by simpa [PyData.showable] using hs) (fun t ht => Nat.le_trans (listText_mem_le ht) hz')
  have hna : a ∉ bs := not_mem_of_deeper r (by simp only [PyData.depth]; omega) hb
  refine ⟨a :: bs, ReadAtMost.cons r (by simp only [PyData.depth]; omega) hb, ?_⟩
  simp only [PyData.depth, PyData.shown]
  cases its with
  | nil =>
    have h4' : ReadsAll h [] ds _ := h4
    cases h4'
    simp only [PyData.shownAll, listText_nil]
    exact ReprK.listEmpty h1 h2 h3
  | cons x l => exact ReprK.list h1 h2 h3 hna (by simpa using hk.length_eq) (fun i y e => hk.item i y (by simpa using e))
theorem RpK.tuple {prog : Program} {w : World} {h : Heap} {a : Addr} {o : Obj} {its : List Value} {n : Nat} {ds : List PyData} (h1 : h.get? a = some o) (h2 : o.cls = .type "tuple") (h3 : o.data = .seq its.toArray n) (k : RpKs prog w h its ds) : RpK prog w h (.ref a) (.tuple ds) := by
  obtain ⟨⟨as, h4⟩, k⟩ := k
  have r : Reads h (.ref a) (.tuple ds) _ := .tuple h1 h2 h3 h4
  refine ⟨⟨_, r⟩, fun hs hz => ?_⟩
  have hz' : (tupleText (PyData.shownAll ds)).length ≤ sizeLine := by simpa only [PyData.shown] using hz
  obtain ⟨bs, hb, hk⟩ := k (by simpa [PyData.showable] using hs) (fun t ht => Nat.le_trans (tupleText_mem_le ht) hz')
  have hna : a ∉ bs := not_mem_of_deeper r (by simp only [PyData.depth]; omega) hb
  refine ⟨a :: bs, ReadAtMost.cons r (by simp only [PyData.depth]; omega) hb, ?_⟩
  simp only [PyData.depth, PyData.shown]
  exact ReprK.tuple h1 h2 h3 hna hk
theorem RpK.dict {prog : Program} {w : World} {h : Heap} {a : Addr} {o : Obj} {n : Nat} (h1 : h.get? a = some o) (h2 : o.cls = .type "dict") (h3 : o.data = .dict #[] n) (hs : (a == sysModules) = false) : RpK prog w h (.ref a) (.dict []) := by
  have r : Reads h (.ref a) (.dict []) _ := .dict h1 h2 h3 .nil .nil
  refine ⟨⟨_, r⟩, fun _ _ => ⟨[a], ?_, ?_⟩⟩
  · intro b hb
    rw [List.mem_singleton.mp hb]
    exact ⟨_, _, r, Nat.le_refl _⟩
  · exact ReprK.dict h1 h2 h3 hs (fun z => by cases z) .nil
theorem Rp.reprK {X : Cx} {pins : List (Addr × Obj)} {σ : L2.St} {H : Hp} {s : Shared} (I : Inv X pins σ H s) {v : V} {d : Dat} (h : Rp H v d) : ∀ u, RelV v u → RpK X.prog X.w s.heap u d.py := by
  refine Rp.rec (motive_1 := fun v d _ => ∀ u, RelV v u → RpK X.prog X.w s.heap u d.py) (motive_2 := fun xs l _ => ∀ us, Vals xs us → RpKs X.prog X.w s.heap us (Dat.pys l)) ?_ ?_ ?_ ?_ ?_ ?_ ?_ ?_ ?_ h
  · intro u r
    cases r
    exact ⟨⟨_, .none⟩, fun hs hz => ReprK.of_reads .none hs (fun z => by cases z) hz⟩
  · intro b u r
    cases r
    exact ⟨⟨_, .bool b⟩, fun hs hz => ReprK.of_reads (.bool b) hs (fun z => by cases z) hz⟩
  · intro n u r
    obtain ⟨t, rfl⟩ := r
    exact ⟨⟨_, .int n t⟩, fun hs hz => ReprK.of_reads (.int n t) hs (fun z => by cases z) hz⟩
  · intro n u r
    obtain ⟨t, rfl⟩ := r
    exact ⟨⟨_, .str n t⟩, fun hs hz => ReprK.of_reads (.str n t) hs (fun z => by cases z) hz⟩
  · intro a e u r
    cases r
    obtain ⟨o, n, h1, h2, h3, h4⟩ := dic_reads I e
    exact RpK.dict h1 h2 h3 h4
  · intro a xs l e _ ih u r
    cases r
    obtain ⟨its, rv, ⟨o, n, ho, hc, _, hd⟩, _⟩ := I.list (SqL.of e)
    exact RpK.list ho hc hd (ih its rv)
  · intro a xs l e _ ih u r
    cases r
    obtain ⟨its, rv, ⟨o, ho, hc, n, hd⟩, _⟩ := I.tuple (SqT.of e)
    exact RpK.tuple ho hc hd (ih its rv)
  · intro us r
    cases r
    exact ⟨⟨_, .nil⟩, fun _ _ => ⟨[], (fun _ h => nomatch h), by simp only [Dat.pys, PyData.shownAll]; exact .nil⟩⟩
  · intro x y xs ys _ _ h1 h2 us r
    cases r with
    | cons r1 r2 => exact RpKs.cons (h1 _ r1) (h2 _ r2)
/-- repr(xs), xs a list or a tuple of such values -/
def rReprR : List V → Hp → VK → Prop := fun xs H Q => ∃ (a : Addr) (d : Dat), xs = [.ref a] ∧ Rp H (.ref a) d ∧ d.py.showable = true ∧ d.py.depth ≤ 64 ∧ d.py.shown.length ≤ sizeLine ∧ Q (.str d.py.shown) H
theorem call_reprR {X : Cx} (hg : X.A.guards = some []) (hu : X.A.units + 70 < cLine) : CallR X (.builtin "repr") rReprR := by
  intro pins s σ H xs us Q I r h
  obtain ⟨a, d, rfl, hr, sh, dp, sz, q⟩ := h
  obtain ⟨u, rfl, ru⟩ := vals1 r
  cases (show u = Value.ref a from ru)
  have fin : ∀ h' u tk, (∀ b o, s.heap.get? b = some o → h'.get? b = some o) → EP X pins σ Q (.str d.py.shown u) { s with heap := h', toks := tk } := fun h' u tk hk => ⟨.str d.py.shown, H, I.kept (t' := tk) hk, ⟨u, rfl⟩, q⟩
  cases hr with
  | dic e =>
    obtain ⟨o, n, h1, h2, h3, h4⟩ := dic_reads I e
    have rd : Reads s.heap (.ref a) (.dict []) _ := .dict h1 h2 h3 .nil .nil
    exact repr_of_reads' rd sh (fun _ z => by
      have z : sysModules ∈ [a] := z
      rw [List.mem_singleton.mp z] at h4
      simp at h4) hg (by show X.A.units + ((PyData.dict []).depth + 1) < cLine; have : (PyData.dict []).depth ≤ 64 := dp; omega) (fun _ _ e => e) fin sz
  | @lst _ xs l e hp =>
    obtain ⟨its, rv, ⟨o, n, ho, hc, _, hd⟩, _⟩ := I.list (SqL.of e)
    have all : ∀ {xs : List V} {l : List Dat}, Paired (Rp H) xs l → ∀ us, Vals xs us → RpKs X.prog X.w s.heap us (Dat.pys l) := by
      intro xs l hp
      induction hp with
      | nil =>
        intro us r
        cases r
        exact ⟨⟨_, .nil⟩, fun _ _ => ⟨[], (fun _ h => nomatch h), by simp only [Dat.pys, PyData.shownAll]; exact .nil⟩⟩
      | cons h1 _ ih =>
        intro us r
        cases r with
        | cons r1 r2 => exact RpKs.cons (h1.reprK I _ r1) (ih _ r2)
    have k := all hp its rv
    obtain ⟨⟨as, h4⟩, k⟩ := k
    have sz' : (listText (PyData.shownAll (Dat.pys l))).length ≤ sizeLine := by simpa only [Dat.py, PyData.shown] using sz
    obtain ⟨bs, hb, hk⟩ := k (by simpa [Dat.py, PyData.showable] using sh) (fun t ht => Nat.le_trans (listText_mem_le ht) sz')
    have r : Reads s.heap (.ref a) (.list (Dat.pys l)) _ := .list ho hc hd h4
    have hna : a ∉ bs := not_mem_of_deeper r (by simp only [PyData.depth]; omega) hb
    have dp' : PyData.depthAll (Dat.pys l) + 1 ≤ 64 := by simpa only [Dat.py, PyData.depth] using dp
    simp only [Dat.py, PyData.shown] at fin
    refine call_repr_slot (by omega) ⟨o, ho, hc⟩ F.slot_list_repr.toG ?_
    cases its with
    | nil =>
      have h4' : ReadsAll s.heap [] (Dat.pys l) _ := h4
      cases hl : Dat.pys l with
      | nil =>
        rw [hl] at fin
        simp only [PyData.shownAll, listText_nil] at fin
        exact call_list_repr_empty ⟨o, ho, hc⟩ ho hd ⟨_, _, rfl, fin s.heap _ _ fun _ _ e => e⟩
      | cons x t =>
        rw [hl] at h4'
        cases h4'
    | cons x t =>
      exact call_list_reprK ho hc hd hna (by simpa using hk.length_eq) (fun i y e => hk.item i y (by simpa using e)) (g := []) hg (fun b _ => Clear.nil b) (by show X.A.units + 1 + _ < cLine; omega) (fun _ _ e => e) (fun h' u tk hk => ⟨_, _, rfl, fin h' u tk hk⟩) sz'
  | @tup _ xs l e hp =>
    obtain ⟨its, rv, ⟨o, ho, hc, n, hd⟩, _⟩ := I.tuple (SqT.of e)
    have all : ∀ {xs : List V} {l : List Dat}, Paired (Rp H) xs l → ∀ us, Vals xs us → RpKs X.prog X.w s.heap us (Dat.pys l) := by
      intro xs l hp
      induction hp with
      | nil =>
        intro us r
        cases r
        exact ⟨⟨_, .nil⟩, fun _ _ => ⟨[], (fun _ h => nomatch h), by simp only [Dat.pys, PyData.shownAll]; exact .nil⟩⟩
      | cons h1 _ ih =>
        intro us r
        cases r with
        | cons r1 r2 => exact RpKs.cons (h1.reprK I _ r1) (ih _ r2)
    have k := all hp its rv
    obtain ⟨⟨as, h4⟩, k⟩ := k
    have sz' : (tupleText (PyData.shownAll (Dat.pys l))).length ≤ sizeLine := by simpa only [Dat.py, PyData.shown] using sz
    obtain ⟨bs, hb, hk⟩ := k (by simpa [Dat.py, PyData.showable] using sh) (fun t ht => Nat.le_trans (tupleText_mem_le ht) sz')
    have r : Reads s.heap (.ref a) (.tuple (Dat.pys l)) _ := .tuple ho hc hd h4
    have hna : a ∉ bs := not_mem_of_deeper r (by simp only [PyData.depth]; omega) hb
    have dp' : PyData.depthAll (Dat.pys l) + 1 ≤ 64 := by simpa only [Dat.py, PyData.depth] using dp
    simp only [Dat.py, PyData.shown] at fin
    refine call_repr_slot (by omega) ⟨o, ho, hc⟩ F.slot_tuple_repr ?_
    exact call_tuple_reprK ho hc hd hna hk (g := []) hg (fun b _ => Clear.nil b) (by show X.A.units + 1 + _ < cLine; omega) (fun _ _ e => e) (fun h' u tk hk => ⟨_, _, rfl, fin h' u tk hk⟩) sz'
end UP

set_option Elab.async false
set_option linter.all false
set_option maxRecDepth 100000
set_option maxHeartbeats 4000000
namespace UP
open PySem PySem.Spec PyProof.Rows L2
/-! ### an exception that is kept beyond its clause -/
def ExK (cls : Value) (a : Addr) : HO := .ext fun h => ∃ (oe : Obj) (vs : Array Value), h.get? a = some oe ∧ Zc cls none oe ∧ oe.data = .fields vs
theorem track {X : Cx} {pins : List (Addr × Obj)} {σ : L2.St} {H : Hp} {s : Shared} {a : Addr} {oe : Obj} {vs : Array Value} {cls : Value} (I : Inv X pins σ H s) (na : H a = none) (ha : s.heap.get? a = some oe) (hz : Zc cls none oe) (hd : oe.data = .fields vs)
    (n0 : X.s_0.heap.get? a = none) (nL : a ≠ X.env.locals) (np : ∀ p ∈ X.pn ++ pins, p.1 ≠ a) : Inv X pins σ (upd H a (ExK cls a)) s := by
  have k : ∀ b o, H b = some o → upd H a (ExK cls a) b = some o := fun b o e => by
    rw [upd_ne (ne_of_none e na)]
    exact e
  refine ⟨I.ok, I.os, I.bare, ⟨I.base.keep, I.base.slot, fun b o e n hx => ?_, I.base.there, fun b xs e => k _ _ (I.base.tups b xs e), fun b o u e => k _ _ (I.base.frzs b o u e), fun b ps e => ?_⟩, I.loc, I.cell, ?_, fun x c e => ?_, fun p hp => ?_, HOk.laidN I.hok (fun _ _ e => e) na ?_, I.len⟩
  · have nb : b ≠ a := fun z => by
      rw [z, n0] at e
      cases e
    rw [upd_ne nb]
    exact I.base.free b o e n hx
  · obtain ⟨m, h⟩ := I.base.tbls b ps e
    exact ⟨m, k _ _ h⟩
  · rw [upd_ne nL.symm]
    exact I.free
  · have nb : c ≠ a := fun z => by
      obtain ⟨v, o, ho, hc⟩ := I.cell x c e
      rw [z, ha] at ho
      cases ho
      rw [hd] at hc
      cases hc
    rw [upd_ne nb]
    exact I.freeC x c e
  · obtain ⟨h1, h2, h3⟩ := I.pin p hp
    exact ⟨h1, by rw [upd_ne (np p hp)]; exact h2, h3⟩
  · exact ⟨⟨oe, vs, ha, hz, hd⟩, ⟨oe, ha⟩, fun _ _ ⟨o, v, q, r⟩ kk => ⟨o, v, kk o q, r⟩⟩
theorem sky_new {B : Heap} {l : List Env} {a L : Addr} {Z : Obj → Prop} {h : Heap} (s : Sky B l a Z L h) : B.get? a = none := by
  rcases s with s | s | s
  · exact s.2.1
  · exact s.2.1
  · exact s.2.1
/-- what 'except x as n: y = n' wishes of an exception of the body, one of x's always -/
def wKeep (K : PySem.W.Frag) (c : Value) (i j : Nat) (D : Ends) : WX := fun cls d σ H =>
  PySem.W.exmOne K cls c = some true ∧ d = none ∧ ∀ a, H a = none → D.nx (((σ.set i (some (.ref a))).set j (some (.ref a))).set i none) (upd H a (ExK cls a))
theorem ps_try_keep {X : Cx} {x n y : Str} {c : Value} {i j : Nat} {body : List Stmt} {np py pm ap pos pos' : Pos} {tb : WX → TS} (hs : X.stack = X.env :: X.outer) (hf : X.env.frame = some X.env.locals) (hN : X.N.Nodup) (hi : X.N[i]? = some n) (hln : X.env.kindOf n = some .local) (hc : Names X x c) (hx0 : X.ex = [])
    (hb : ∀ (W : WX) (pn : List (Addr × Obj)) (xe : Value → Shared → Prop), Takes (X.tr pn xe) W → PassesOwn (model X.prog X.w) X.A X.env xe → PSs (X.tr pn xe) body (tb W))
    (hsu : ∀ (a : Addr) (pn : List (Addr × Obj)), PSs (X.suite a pn) [.Assign [.Name y py] (.Name n pm) ap] (tAsg (tVar i) (gName j))) :
    PS X (.Try body [.ExceptHandler (some (.Name x np)) (some n) [.Assign [.Name y py] (.Name n pm) ap] pos'] [] [] pos) (fun D σ H => tb (wKeep X.K c i j D) D σ H) := by
  refine ⟨fun pins s σ H D I h => ?_⟩
  have ok := I.ok
  refine wpAny_Try_except (wpAny_mono ((hb (wKeep X.K c i j D) (X.pn ++ pins) _ (fun u s' xx => ?_) PassesOwn.looking).run [] s σ H D (I.toTry _) h) (fun f s1 hsp => ?_) (fun e s1 he => he))
  · obtain ⟨a, B, sI, pins', σ1, H1, cls, d, rfl, J0, nb, up, sky, na, os, ag, hexm, rfl, q⟩ := xx
    have J : Inv X pins σ1 H1 sI := J0.ofTry ok
    have sky : Sky B (X.env :: X.outer) a (Zc cls none) X.env.locals s'.heap := by
      rw [← hs]
      exact sky
    have fr : X.A.frames = some (X.env :: X.outer) := by rw [ok.frames, hs]
    show wpAny (model X.prog X.w) X.A (noteFrame (.ref a) X.env) _ _ _
    have nB := sky_new sky
    refine Sky.land Zc.steady fr hf sky fun h3 fl3 up3 => ?_
    have J3 : Inv X pins σ1 H1 { s' with heap := h3 } := J.landed nb fl3.1 (up.trans up3) os ag
    obtain ⟨o3, v3, e3, z3, d3⟩ := fl3.there
    have notFr : a ∉ frs (X.env :: X.outer) := fun hm => by
      obtain ⟨_, o, e, hnf⟩ := fl3.2.2.1.mem hm
      rw [e3] at e
      cases e
      exact hnf _ d3
    have nL : a ≠ X.env.locals := fun z => notFr (List.mem_filterMap.mpr ⟨X.env, List.mem_cons_self, by rw [hf, z]⟩)
    have nF : a ∉ X.fs := fun hm => by
      obtain ⟨e, he, r⟩ := List.mem_filterMap.mp hm
      exact notFr (List.mem_filterMap.mpr ⟨e, List.mem_cons_of_mem _ he, r⟩)
    have nI : sI.heap.get? a = none := by
      cases hI : sI.heap.get? a with
      | none => rfl
      | some o =>
        have := nb a o hI (by
          show a ∉ frs X.stack
          rw [hs]
          exact notFr)
        rw [nB] at this
        cases this
    have n0 : X.s_0.heap.get? a = none := by
      cases h0 : X.s_0.heap.get? a with
      | none => rfl
      | some o =>
        obtain ⟨o', e'⟩ := J.base.there a o h0 (by rw [hx0]; exact List.not_mem_nil)
        rw [nI] at e'
        cases e'
    have npn : ∀ p ∈ X.pn ++ pins, p.1 ≠ a := fun p hp z => by
      have := (J.pin p hp).1
      rw [z, nI] at this
      cases this
    have S3 := J3.suite e3 d3 na nL nF
    refine wpAny_handleBy_cons (codeAny_handlers_test ?_) (by intro r; cases r)
    have LT : PySem.W.Looks (model X.prog X.w) h3 (typeOf (.ref a)) cls := fun A Q E s k r => wpAny_typeOf_ref (k _ _ e3) (by rw [z3.1]; exact r)
    have LM := PySem.W.exm_one (M := model X.prog X.w) (J3.kIn) LT hexm
    have test : ∀ {Q : Value → Shared → Prop} {E : Value → Shared → Prop}, Q c { s' with heap := h3 } → wpAny (model X.prog X.w) (X.A.mark (some (.ref a))) (eval (.Name x np) X.env) Q E { s' with heap := h3 } := fun {Q E} r => by
      obtain ⟨hg, hdbg, hm | ⟨hm, hv, hnn⟩⟩ := hc
      · exact ld_glob (X := X.suite a ((a, o3) :: (X.pn ++ pins))) S3 hg hm r hdbg
      · exact ld_blt (X := X.suite a ((a, o3) :: (X.pn ++ pins))) S3 hg hm hv r hnn hdbg
    refine test (LM.here (codeAny_handlers_suite_as (HandSPX.lands_againZ fl3 fun h4 fl4 up4 => ?_)))
    have J4 : Inv X pins σ1 H1 { s' with heap := h4 } := J.landed nb fl4.1 ((up.trans up3).trans up4) os ag
    obtain ⟨o4, v4, e4, z4, d4⟩ := fl4.there
    refine store_ok (X := X.suite a ((a, o4) :: (X.pn ++ pins))) (v := .ref a) (J4.suite e4 d4 na nL nF) hN hi (.inl hln) rfl (fun s5 S5 => ?_) (.inr hln)
    refine wpAny_mono ((hsu a ((a, o4) :: (X.pn ++ pins))).run [] s5 _ H1 { nx := fun σ6 H6 => σ6 = (σ1.set i (some (.ref a))).set j (some (.ref a)) ∧ H6 = H1, rt := fun _ _ => False, bk := fun _ _ => False, ct := fun _ _ => False } S5 ?_) (fun f s6 hsp => ?_) (fun _ _ r => False.elim r)
    · refine ⟨.ref a, ?_, rfl, rfl⟩
      have li : i < σ1.length := by
        rw [J.len]
        exact (List.getElem?_eq_some_iff.mp hi).1
      exact List.getElem?_set_self li
    cases f with
    | next =>
      obtain ⟨σ6, H6, S6, rfl, rfl⟩ := hsp
      have U := S6.unsuite ok
      have J6 : Inv X ((a, o4) :: pins) ((σ1.set i (some (.ref a))).set j (some (.ref a))) H6 s6 := ⟨U.ok, U.os, U.bare, U.base, U.loc, U.cell, U.free, U.freeC, fun p hp => by
        rcases List.mem_append.mp hp with z | z
        · exact U.pin p (List.mem_append_left _ z)
        · rcases List.mem_cons.mp z with z | z
          · rw [z]
            exact S6.pin (a, o4) (List.mem_append_left _ List.mem_cons_self)
          · exact U.pin p (List.mem_append_right _ z), U.hok, U.len⟩
      refine gone_ok J6 hN hi hln fun s7 J7 => ?_
      have e7 := (J7.pin (a, o4) (List.mem_append_right _ List.mem_cons_self)).1
      have K7 : Inv X pins (((σ1.set i (some (.ref a))).set j (some (.ref a))).set i none) H6 s7 := ⟨J7.ok, J7.os, J7.bare, J7.base, J7.loc, J7.cell, J7.free, J7.freeC, fun p hp => J7.pin p (by
        rcases List.mem_append.mp hp with z | z
        · exact List.mem_append_left _ z
        · exact List.mem_append_right _ (List.mem_cons_of_mem _ z)), J7.hok, J7.len⟩
      exact ⟨_, _, track K7 na e7 z4 d4 n0 nL npn, q a na⟩
    | brk =>
      obtain ⟨_, _, _, z⟩ := hsp
      exact z.elim
    | cont =>
      obtain ⟨_, _, _, z⟩ := hsp
      exact z.elim
    | ret u =>
      obtain ⟨_, _, _, _, _, z⟩ := hsp
      exact z.elim
  · cases f with
    | next =>
      obtain ⟨σ1, H1, J1, q⟩ := hsp
      exact wpAny_execs_nil ⟨σ1, H1, J1.ofTry ok, q⟩
    | brk =>
      obtain ⟨σ1, H1, J1, q⟩ := hsp
      exact ⟨σ1, H1, J1.ofTry ok, q⟩
    | cont =>
      obtain ⟨σ1, H1, J1, q⟩ := hsp
      exact ⟨σ1, H1, J1.ofTry ok, q⟩
    | ret u =>
      obtain ⟨v, σ1, H1, J1, r, q⟩ := hsp
      exact ⟨v, σ1, H1, J1.ofTry ok, r, q⟩
/-- isinstance(e, c), e kept -/
def rIsK (K : PySem.W.Frag) : List V → Hp → VK → Prop := fun xs H Q => ∃ (a D : Addr) (c : V) (cv : Value) (b : Bool), xs = [.ref a, c] ∧ H a = some (ExK (.ref D) a) ∧ ExcC K D ∧ (∀ u, RelV c u → u = cv) ∧ PySem.W.kitOne K (.ref D) cv = some b ∧ Q (.bl b) H
theorem inst_of {X : Cx} {pins : List (Addr × Obj)} {σ : L2.St} {H : Hp} {s : Shared} {a D : Addr} (I : Inv X pins σ H s) (h : H a = some (ExK (.ref D) a)) : ∃ oe, PySem.W.InstAt s.heap a oe D none := by
  have z : ObjOk X.prog X.w H s.heap a (.ext fun h => ∃ (oe : Obj) (vs : Array Value), h.get? a = some oe ∧ Zc (.ref D) none oe ∧ oe.data = .fields vs) := I.hok a _ h
  obtain ⟨⟨oe, vs, hget, hz, hv⟩, _⟩ := z
  refine ⟨oe, ?_⟩
  obtain ⟨oc, od, oda, osl⟩ := oe
  obtain ⟨h1, h2⟩ := hz
  dsimp only at h1 h2 hv
  subst h1 h2 hv
  exact ⟨hget, rfl, rfl, trivial⟩
theorem call_isK {X : Cx} : CallR X (.builtin "isinstance") (rIsK X.K) := by
  intro pins s σ H xs us Q I r h
  obtain ⟨a, D, c, cv, b, rfl, hE, C, hcv, e, q⟩ := h
  cases r with
  | cons rx rr =>
    cases rr with
    | cons rt rr =>
      cases rr
      cases rx
      have ec := hcv _ rt
      subst ec
      obtain ⟨oe, J⟩ := inst_of I hE
      exact PySem.W.kia_one (PySem.W.handS_kitx_exc C.hg C.hk C.hs C.hd C.ha C.hn C.ht C.hm) I.kIn J e (fun z => nomatch z) fun tk => ⟨.bl b, H, I.kept (t' := tk) fun _ _ z => z, rfl, q⟩
end UP

set_option Elab.async false
set_option linter.all false
set_option maxRecDepth 100000
set_option maxHeartbeats 4000000
namespace UP
open PySem PySem.Spec PyProof.Rows L2
/-- isinstance(e, (c1, c2, ..)), e kept -/
def rIsKT (K : PySem.W.Frag) : List V → Hp → VK → Prop := fun xs H Q => ∃ (a D tp : Addr) (cs : List V) (us : List Value) (b : Bool), xs = [.ref a, .ref tp] ∧ H a = some (ExK (.ref D) a) ∧ ExcC K D ∧ H tp = some (.tup cs) ∧ Paired ClsV cs us ∧ PySem.W.kitAny K (.ref D) us = some b ∧ Q (.bl b) H
theorem call_isKT {X : Cx} : CallR X (.builtin "isinstance") (rIsKT X.K) := by
  intro pins s σ H xs us Q I r h
  obtain ⟨a, D, tp, cs, ws, b, rfl, hE, C, hT, k, e, q⟩ := h
  obtain ⟨u1, u2, rfl, r1, r2⟩ := vals2 r
  cases (show u1 = Value.ref a from r1)
  cases (show u2 = Value.ref tp from r2)
  obtain ⟨oe, J⟩ := inst_of I hE
  obtain ⟨_, its, rv, o, h1, h2, n, h3⟩ := (show ObjOk X.prog X.w H s.heap tp (.tup cs) from I.hok tp _ hT)
  have e3 := ClsV.all k rv
  subst e3
  obtain ⟨oc, od, dt, sl⟩ := o
  simp only at h2 h3
  subst h2 h3
  exact PySem.W.kia_tup (PySem.W.handS_kitx_exc C.hg C.hk C.hs C.hd C.ha C.hn C.ht C.hm) I.kIn J h1 e (fun z => nomatch z) fun tk => ⟨.bl b, H, I.tok tk, rfl, q⟩
def six : List Str := ["InvalidSequence", "InvalidState", "InvalidPosition", "InvalidNumber", "InvalidItems", "TooLong"]
def oddA : List Str := ["Contradiction", "Impossible", "InvalidCommand", "InvalidCounts", "InvalidEffects", "InvalidKind"]
def oddB : List Str := ["InvalidKinds", "InvalidRecord", "InvalidText", "NothingToUndo", "SameEffect", "TooMany"]
/-- the classes stand there -/
structure Cmg (mg : Str → Option Value) (CA : Str → Addr) : Prop where
  all : ∀ n, n ∈ six ++ (oddA ++ (oddB ++ [("PairError" : Str)])) → mg n = some (.ref (CA n))
/-- what the class nm says of itself -/
structure ClsF (K : PySem.W.Frag) (CA : Str → Addr) (nm : Str) : Prop where
  ex : ExcC K (CA nm)
  em : PySem.W.exmOne K (.ref (CA nm)) (.ref (CA "PairError")) = some true
  ki : ∀ n, n ∈ six ++ (oddA ++ oddB) → PySem.W.kitOne K (.ref (CA nm)) (.ref (CA n)) = some (decide (n = nm))
  kp : PySem.W.kitOne K (.ref (CA nm)) (.ref (CA "PairError")) = some true
  kv : PySem.W.kitOne K (.ref (CA nm)) (.type "ValueError") = some true
theorem kit_none {K : PySem.W.Frag} {CA : Str → Addr} {nm : Str} (C : ClsF K CA nm) (hn : nm ∈ six) : ∀ l : List Str, (∀ n ∈ l, n ∈ six ++ (oddA ++ oddB) ∧ n ∉ six) → PySem.W.kitAny K (.ref (CA nm)) (l.map fun n => .ref (CA n)) = some false
  | [], _ => rfl
  | n :: t, h => by
    obtain ⟨h1, h2⟩ := h n (List.mem_cons_self ..)
    have e := C.ki n h1
    rw [decide_eq_false (fun z : n = nm => h2 (by rw [z]; exact hn))] at e
    exact kitAny_cons e (fun _ => kit_none C hn t fun x hx => h x (List.mem_cons_of_mem _ hx)) (fun z => by cases z)
section
variable {P : Program} {w : World} {K : PySem.W.Frag} {mg : Str → Option Value} {base : Heap}
end
end UP

set_option Elab.async false
set_option linter.all false
set_option maxRecDepth 100000
set_option maxHeartbeats 4000000
namespace UP
open PySem PySem.Spec PyProof.Rows L2
/-! ### written values -/
def Lit (σ : L2.St) (H0 : Hp) (t : TE) (d : Dat) : Prop := ∀ H (Q : VK), Same H0 H → (∀ H' v, Same H H' → Rp H' v d → Q v H') → t σ H Q
def Lits (σ : L2.St) (H0 : Hp) (t : TA) (ds : List Dat) : Prop := ∀ H (Q : List V → Hp → Prop), Same H0 H → (∀ H' vs, Same H H' → Paired (Rp H') vs ds → Q vs H') → t σ H Q
section
variable {σ : L2.St} {H0 : Hp}
theorem Lit.go {H : Hp} {t : TE} {d : Dat} {Q : VK} (h : Lit σ H t d) (q : ∀ H' v, Same H H' → Rp H' v d → Q v H') : t σ H Q := h H Q (Same.refl _) q
theorem lit_non : Lit σ H0 (tC .non) .non := fun H Q _ q => q H _ (Same.refl _) .non
theorem lit_int {n : Int} : Lit σ H0 (tC (.int n)) (.int n) := fun H Q _ q => q H _ (Same.refl _) (.int n)
theorem lit_bl {b : Bool} : Lit σ H0 (tC (.bl b)) (.bl b) := fun H Q _ q => q H _ (Same.refl _) (.bl b)
theorem lit_str {z : Str} : Lit σ H0 (tC (.str z)) (.str z) := fun H Q _ q => q H _ (Same.refl _) (.str z)
theorem lit_dic : Lit σ H0 tDNewK .dic := fun H Q _ q p np => q _ _ (same_upd np) (.dic upd_same)
theorem lit_var {i : Nat} {v : V} {d : Dat} (e : σ[i]? = some (some v)) (h : Rp H0 v d) : Lit σ H0 (tVar i) d := fun H Q s q => ⟨v, e, q H v (Same.refl _) (h.same s)⟩
theorem lit_val {t : TE} {v : V} {d : Dat} (h : ∀ H (Q : VK), Q v H → t σ H Q) (r : ∀ H, Rp H v d) : Lit σ H0 t d := fun H Q _ q => h H Q (q H v (Same.refl _) (r H))
theorem lits_nil : Lits σ H0 tNil [] := fun H Q _ q => q H [] (Same.refl _) .nil
theorem lits_cons {t : TE} {ts : TA} {d : Dat} {ds : List Dat} (h1 : Lit σ H0 t d) (h2 : Lits σ H0 ts ds) : Lits σ H0 (tCons t ts) (d :: ds) := fun H Q s q => h1 H _ s fun H1 v s1 r1 => h2 H1 _ (s.trans s1) fun H2 vs s2 r2 => q H2 (v :: vs) (s1.trans s2) (.cons (r1.same s2) r2)
theorem rps_same {H H' : Hp} {xs : List V} {ds : List Dat} (s : Same H H') (h : Paired (Rp H) xs ds) : Paired (Rp H') xs ds := Paired.imp (fun _ _ => Rp.same s) h
theorem lit_lst {ts : TA} {ds : List Dat} (h : Lits σ H0 ts ds) (l : ds.length ≤ 1000) : Lit σ H0 (tLst ts) (.lst ds) := fun H Q s q => h H _ s fun H1 vs s1 r => ⟨by rw [Paired.len r]; exact smallE (by omega), fun p np => q _ _ (s1.trans (same_upd np)) (.lst upd_same (rps_same (same_upd np) r))⟩
theorem lit_tup {ts : TA} {ds : List Dat} (h : Lits σ H0 ts ds) (l : ds.length ≤ 1000) : Lit σ H0 (tTup ts) (.tup ds) := fun H Q s q => h H _ s fun H1 vs s1 r => ⟨by rw [Paired.len r]; exact smallE (by omega), fun p np => q _ _ (s1.trans (same_upd np)) (.tup upd_same (rps_same (same_upd np) r))⟩
theorem lit_cat {t u : TE} {a b : List Dat} (h1 : Lit σ H0 t (.lst a)) (h2 : Lit σ H0 u (.lst b)) (l : a.length + b.length ≤ 1000) : Lit σ H0 (tOp rCat t u) (.lst (a ++ b)) := fun H Q s q => h1 H _ s fun H1 v s1 r1 => h2 H1 _ (s.trans s1) fun H2 w s2 r2 => by
  cases r1.same s2 with
  | lst e1 p1 =>
    cases r2 with
    | lst e2 p2 =>
      refine ⟨_, _, _, _, rfl, rfl, e1, e2, ?_, fun p np => q _ _ (s1.trans (s2.trans (same_upd np))) (.lst upd_same (rps_same (same_upd np) (Paired.app p1 p2)))⟩
      rw [Paired.len p1, Paired.len p2]
      exact smallE (by omega)
theorem rep_pair {α β : Type} {F : α → β → Prop} {xs : List α} {ys : List β} (h : Paired F xs ys) : ∀ n : Nat, Paired F (List.replicate n xs).flatten (List.replicate n ys).flatten
  | 0 => .nil
  | n + 1 => by
    rw [List.replicate_succ, List.replicate_succ, List.flatten_cons, List.flatten_cons]
    exact Paired.app h (rep_pair h n)
theorem lit_rep {t : TE} {a : List Dat} {k : Int} (h1 : Lit σ H0 t (.lst a)) (k0 : 0 ≤ k) (k1 : k ≤ 1000) (l : a.length * k.toNat ≤ 1000) : Lit σ H0 (tOp rRep t (tC (.int k))) (.lst (List.replicate k.toNat a).flatten) := fun H Q s q => h1 H _ s fun H1 v s1 r1 => by
  cases r1 with
  | lst e1 p1 =>
    refine ⟨_, k, _, rfl, rfl, e1, by omega, by omega, ?_, fun p np => q _ _ (s1.trans (same_upd np)) (.lst upd_same (rps_same (same_upd np) (rep_pair p1 _)))⟩
    rw [Paired.len p1]
    exact smallE (by omega)
end
/-- an index into a written list -/
theorem rp_at {H : Hp} {v : V} {ds : List Dat} {i : Int} (h : Rp H v (.lst ds)) (i0 : 0 ≤ i) (i1 : i.toNat < ds.length) : ∃ a xs x, v = .ref a ∧ H a = some (.lst xs) ∧ atI xs i = some x ∧ Rp H x ds[i.toNat] := by
  cases h with
  | lst e p =>
    obtain ⟨x, ex, hx⟩ := Paired.at' p (List.getElem?_eq_getElem i1)
    exact ⟨_, _, x, rfl, e, atI_ofR i0 ex, hx⟩
theorem lit_set {t : TE} {d : Dat} {i : Nat} {D : Ends} {rest : TS} {σ : L2.St} {H : Hp} (h : Lit σ H t d) (q : ∀ H' v, Same H H' → Rp H' v d → rest D (σ.set i (some v)) H') : tSeq (tAsg t (gName i)) rest D σ H := h H _ (Same.refl _) q
theorem lit_retIx {K : PySem.W.Frag} {t u : TE} {ds : List Dat} {D : Ends} {σ : L2.St} {H : Hp} (h : Lit σ H t (.lst ds)) (q : ∀ H' v, Same H H' → Rp H' v (.lst ds) → u σ H' (fun y H2 => rIxL K v y H2 D.rt)) : tRet (tOp (rIxL K) t u) D σ H := h H _ (Same.refl _) q
end UP

set_option Elab.async false
set_option linter.all false
set_option maxRecDepth 100000
set_option maxHeartbeats 4000000
namespace UP
open PySem PySem.Spec PyProof.Rows L2
/-! ### values that are new -/
/-- the part of the heap that is new since H0 -/
def newH (H0 H : Hp) : Hp := fun b => match H0 b with
  | none => H b
  | some _ => none
theorem newH_at {H0 H : Hp} {b : Addr} (h : H0 b = none) : newH H0 H b = H b := by
  unfold newH
  rw [h]
theorem newH_old {H0 H : Hp} {b : Addr} {o : HO} (h : H0 b = some o) : newH H0 H b = none := by
  unfold newH
  rw [h]
theorem newH_sub {H0 H : Hp} : Same (newH H0 H) H := fun b o e => by
  cases h : H0 b with
  | none => rw [newH_at h] at e; exact e
  | some o' => rw [newH_old h] at e; cases e
theorem newH_same {H0 H H' : Hp} (s : Same H H') : Same (newH H0 H) (newH H0 H') := fun b o e => by
  cases h : H0 b with
  | none => rw [newH_at h] at e ⊢; exact s _ _ e
  | some o' => rw [newH_old h] at e; cases e
theorem newH_upd {H0 H : Hp} {p : Addr} {o : HO} (h : H0 p = none) : newH H0 (upd H p o) p = some o := by
  rw [newH_at h, upd_same]
/-- an old address may change -/
theorem newH_skip {H0 H : Hp} {G : Addr} {o u : HO} (h : H0 G = some u) : newH H0 (upd H G o) = newH H0 H := by
  funext b
  by_cases e : b = G
  · rw [e, newH_old h, newH_old h]
  · unfold newH
    rw [upd_ne e]
theorem Rp.keepG {H0 H : Hp} {G : Addr} {o u : HO} {v : V} {d : Dat} (h : H0 G = some u) (r : Rp (newH H0 H) v d) : Rp (upd H G o) v d := by
  rw [← newH_skip (o := o) h] at r
  exact r.same newH_sub
def LitF (σ : L2.St) (H0 Hs : Hp) (t : TE) (d : Dat) : Prop := ∀ H (Q : VK), Same H0 H → Same Hs H → (∀ H' v, Same H H' → Rp (newH H0 H') v d → Q v H') → t σ H Q
def LitsF (σ : L2.St) (H0 Hs : Hp) (t : TA) (ds : List Dat) : Prop := ∀ H (Q : List V → Hp → Prop), Same H0 H → Same Hs H → (∀ H' vs, Same H H' → Paired (Rp (newH H0 H')) vs ds → Q vs H') → t σ H Q
section
variable {σ : L2.St} {H0 Hs : Hp}
theorem litF_val {t : TE} {v : V} {d : Dat} (h : ∀ H (Q : VK), Q v H → t σ H Q) (r : ∀ H, Rp H v d) : LitF σ H0 Hs t d := fun H Q _ _ q => h H Q (q H v (Same.refl _) (r _))
theorem litF_non : LitF σ H0 Hs (tC .non) .non := litF_val (fun _ _ q => q) (fun _ => .non)
theorem litF_int {n : Int} : LitF σ H0 Hs (tC (.int n)) (.int n) := litF_val (fun _ _ q => q) (fun _ => .int n)
theorem litF_bl {b : Bool} : LitF σ H0 Hs (tC (.bl b)) (.bl b) := litF_val (fun _ _ q => q) (fun _ => .bl b)
theorem litF_str {z : Str} : LitF σ H0 Hs (tC (.str z)) (.str z) := litF_val (fun _ _ q => q) (fun _ => .str z)
theorem litF_dic : LitF σ H0 Hs tDNewK .dic := fun H Q s _ q p np => q _ _ (same_upd np) (.dic (newH_upd (s.free np)))
theorem litsF_nil : LitsF σ H0 Hs tNil [] := fun H Q _ _ q => q H [] (Same.refl _) .nil
theorem litsF_cons {t : TE} {ts : TA} {d : Dat} {ds : List Dat} (h1 : LitF σ H0 Hs t d) (h2 : LitsF σ H0 Hs ts ds) : LitsF σ H0 Hs (tCons t ts) (d :: ds) := fun H Q s t q => h1 H _ s t fun H1 v s1 r1 => h2 H1 _ (s.trans s1) (t.trans s1) fun H2 vs s2 r2 => q H2 (v :: vs) (s1.trans s2) (.cons (r1.same (newH_same s2)) r2)
theorem litF_lst {ts : TA} {ds : List Dat} (h : LitsF σ H0 Hs ts ds) (l : ds.length ≤ 1000) : LitF σ H0 Hs (tLst ts) (.lst ds) := fun H Q s t q => h H _ s t fun H1 vs s1 r => ⟨by rw [Paired.len r]; exact smallE (by omega), fun p np => q _ _ (s1.trans (same_upd np)) (.lst (newH_upd ((s.trans s1).free np)) (rps_same (newH_same (same_upd np)) r))⟩
theorem litF_tup {ts : TA} {ds : List Dat} (h : LitsF σ H0 Hs ts ds) (l : ds.length ≤ 1000) : LitF σ H0 Hs (tTup ts) (.tup ds) := fun H Q s t q => h H _ s t fun H1 vs s1 r => ⟨by rw [Paired.len r]; exact smallE (by omega), fun p np => q _ _ (s1.trans (same_upd np)) (.tup (newH_upd ((s.trans s1).free np)) (rps_same (newH_same (same_upd np)) r))⟩
theorem litF_var {i : Nat} {v : V} {d : Dat} (e : σ[i]? = some (some v)) (h : Rp (newH H0 Hs) v d) : LitF σ H0 Hs (tVar i) d := fun H Q _ s q => ⟨v, e, q H v (Same.refl _) (h.same (newH_same s))⟩
theorem litF_cat {t u : TE} {a b : List Dat} (h1 : LitF σ H0 Hs t (.lst a)) (h2 : LitF σ H0 Hs u (.lst b)) (l : a.length + b.length ≤ 1000) : LitF σ H0 Hs (tOp rCat t u) (.lst (a ++ b)) := fun H Q s w q => h1 H _ s w fun H1 v s1 r1 => h2 H1 _ (s.trans s1) (w.trans s1) fun H2 x s2 r2 => by
  cases r1.same (newH_same s2) with
  | lst e1 p1 =>
    cases r2 with
    | lst e2 p2 =>
      refine ⟨_, _, _, _, rfl, rfl, newH_sub _ _ e1, newH_sub _ _ e2, ?_, fun p np => q _ _ (s1.trans (s2.trans (same_upd np))) (.lst (newH_upd ((s.trans (s1.trans s2)).free np)) (rps_same (newH_same (same_upd np)) (Paired.app p1 p2)))⟩
      rw [Paired.len p1, Paired.len p2]
      exact smallE (by omega)
end
theorem litF_set {t : TE} {d : Dat} {i : Nat} {D : Ends} {rest : TS} {σ : L2.St} {H0 H : Hp} (s : Same H0 H) (h : LitF σ H0 H t d) (q : ∀ H' v, Same H H' → Rp (newH H0 H') v d → rest D (σ.set i (some v)) H') : tSeq (tAsg t (gName i)) rest D σ H := h H _ s (Same.refl _) q
theorem litF_retIx {K : PySem.W.Frag} {t u : TE} {ds : List Dat} {D : Ends} {σ : L2.St} {H0 H : Hp} (s : Same H0 H) (h : LitF σ H0 H t (.lst ds)) (q : ∀ H' v, Same H H' → Rp (newH H0 H') v (.lst ds) → u σ H' (fun y H2 => rIxL K v y H2 D.rt)) : tRet (tOp (rIxL K) t u) D σ H := h H _ s (Same.refl _) q
theorem litF_setIx {K : PySem.W.Frag} {t u : TE} {ds : List Dat} {i : Nat} {D : Ends} {rest : TS} {σ : L2.St} {H0 H : Hp} (s : Same H0 H) (h : LitF σ H0 H t (.lst ds)) (q : ∀ H' v, Same H H' → Rp (newH H0 H') v (.lst ds) → u σ H' (fun y H2 => rIxL K v y H2 (fun x H3 => rest D (σ.set i (some x)) H3))) : tSeq (tAsg (tOp (rIxL K) t u) (gName i)) rest D σ H := h H _ s (Same.refl _) q
end UP

set_option Elab.async false
set_option linter.all false
set_option maxRecDepth 100000
set_option maxHeartbeats 4000000
namespace UP
open PySem PySem.Spec PyProof.Rows L2
def tpD (p : Str × Bool) : Dat := .tup [.str p.1, .bl p.2]
def nlist (nm : Str) : List (Str × Bool) := [("sequence", decide (("InvalidSequence" : Str) = nm)), ("state", decide (("InvalidState" : Str) = nm)), ("kind", decide (("InvalidKind" : Str) = nm)), ("kinds", decide (("InvalidKinds" : Str) = nm)), ("items", decide (("InvalidItems" : Str) = nm)), ("number", decide (("InvalidNumber" : Str) = nm)), ("effects", decide (("InvalidEffects" : Str) = nm)), ("counts", decide (("InvalidCounts" : Str) = nm)), ("long", decide (("TooLong" : Str) = nm)), ("many", decide (("TooMany" : Str) = nm)), ("impossible", decide (("Impossible" : Str) = nm)), ("same", decide (("SameEffect" : Str) = nm)), ("odd", decide (("InvalidPosition" : Str) = nm)), ("odd", decide (("InvalidRecord" : Str) = nm)), ("odd", decide (("InvalidCommand" : Str) = nm)), ("odd", decide (("InvalidText" : Str) = nm)), ("odd", decide (("Contradiction" : Str) = nm)), ("odd", decide (("NothingToUndo" : Str) = nm))]
def nameOf (nm : Str) : Str := (((nlist nm).filter (·.2)).map (·.1)).headD ""
theorem name_one : ∀ nm ∈ six ++ (oddA ++ oddB), ((nlist nm).filter (·.2)).map (·.1) = [nameOf nm] := by decide +kernel
theorem lit_is {K : PySem.W.Frag} {σ : L2.St} {H0 : Hp} {a D c : Addr} {b : Bool} (e : σ[0]? = some (some (.ref a))) (hE : H0 a = some (ExK (.ref D) a)) (C : ExcC K D) (k : PySem.W.kitOne K (.ref D) (.ref c) = some b) : Lit σ H0 (tCB (rIsK K) (tCons (tVar 0) (tCons (tC (.ref c)) tNil))) (.bl b) := fun H Q s q =>
  ⟨_, e, a, D, _, _, b, rfl, s _ _ hE, C, (fun u r => r), k, q H _ (Same.refl _) (.bl b)⟩
theorem tp_at {H : Hp} {v : V} {l : List (Str × Bool)} (h : Rp H v (.lst (l.map tpD))) : ∃ a xs, v = .ref a ∧ H a = some (.lst xs) ∧ xs.length = l.length ∧ ∀ (i : Nat) (x : V), xs[i]? = some x → ∃ p t, l[i]? = some p ∧ x = .ref t ∧ H t = some (.tup [.str p.1, .bl p.2]) := by
  cases h with
  | lst e p =>
    refine ⟨_, _, rfl, e, by rw [Paired.len p, List.length_map], fun i x ex => ?_⟩
    obtain ⟨d, ed, hd⟩ := Paired.at p ex
    rw [List.getElem?_map] at ed
    cases hl : l[i]? with
    | none => rw [hl] at ed; cases ed
    | some q =>
      rw [hl] at ed
      have ed : tpD q = d := Option.some.inj ed
      subst ed
      cases hd with
      | tup e2 p2 =>
        cases p2 with
        | cons h1 p3 =>
          cases h1
          cases p3 with
          | cons h2 p4 =>
            cases h2
            cases p4
            exact ⟨q, _, rfl, rfl, e2⟩
section
variable {P : Program} {w : World} {K : PySem.W.Frag} {mg : Str → Option Value} {base : Heap}
/-! _law_kind_of: slots 0:e 1:names 2:found 3:name 4:is_one -/
abbrev s_law_kind_of : Stmt := topS 61
theorem sc_law_kind_of : FnScope ["e", "names", "found", "name", "is_one"] ["e"] (defScope s_law_kind_of) := ⟨rfl, rfl, rfl, by decide +kernel, rfl, by decide +kernel, by decide +kernel⟩
def sp_law_kind_of (K : PySem.W.Frag) (CA : Str → Addr) : Sp := fun vs H Q _ => ∃ (a : Addr) (nm : Str), vs = [.ref a] ∧ H a = some (ExK (.ref (CA nm)) a) ∧ ClsF K CA nm ∧ nm ∈ six ++ (oddA ++ oddB) ∧ ∀ H', Same H H' → Q (.str (nameOf nm)) H'
theorem ok_law_kind_of {CA : Str → Addr} (D : Df K mg "_law_kind_of" s_law_kind_of) (T : Tx mg) (CM : Cmg mg CA) : Has P w K mg base 1 "_law_kind_of" ["e"] (sp_law_kind_of K CA) := by
  refine has_of D sc_law_kind_of (fun _ _ _ _ _ _ us hl => match us, hl with | [_], _ => rfl) (fun vs H Q E h => ?_) (fun f cdv A outer s₀ H vs Q E hr h => ?_)
  · obtain ⟨_, _, rfl, _⟩ := h
    rfl
  · obtain ⟨a, nm, rfl, hE, C, hn, q⟩ := h
    have ki : ∀ n, n ∈ six ++ (oddA ++ oddB) → PySem.W.kitOne K (.ref (CA nm)) (.ref (CA n)) = some (decide (n = nm)) := C.ki
    refine ⟨_, (pss_cons (ps_set (i := 1) sc_law_kind_of.nd rfl (by first | exact Or.inl rfl | exact Or.inr rfl) (pe_lst (pa_cons (pe_tup (pa_cons pe_str (pa_cons (pe_callB call_isK (by rfl) T.n_isinstance (by decide +kernel) (pa_cons (pv 0) (pa_cons (pe_glob (v := .ref (CA "InvalidSequence")) (by rfl) (CM.all "InvalidSequence" (by decide)) rfl) pa_nil))) pa_nil))) (pa_cons (pe_tup (pa_cons pe_str (pa_cons (pe_callB call_isK (by rfl) T.n_isinstance (by decide +kernel) (pa_cons (pv 0) (pa_cons (pe_glob (v := .ref (CA "InvalidState")) (by rfl) (CM.all "InvalidState" (by decide)) rfl) pa_nil))) pa_nil))) pa_nil))))
    (pss_cons (ps_set (i := 1) sc_law_kind_of.nd rfl (by first | exact Or.inl rfl | exact Or.inr rfl) (pe_op op_cat (pv 1) (pe_lst (pa_cons (pe_tup (pa_cons pe_str (pa_cons (pe_callB call_isK (by rfl) T.n_isinstance (by decide +kernel) (pa_cons (pv 0) (pa_cons (pe_glob (v := .ref (CA "InvalidKind")) (by rfl) (CM.all "InvalidKind" (by decide)) rfl) pa_nil))) pa_nil))) (pa_cons (pe_tup (pa_cons pe_str (pa_cons (pe_callB call_isK (by rfl) T.n_isinstance (by decide +kernel) (pa_cons (pv 0) (pa_cons (pe_glob (v := .ref (CA "InvalidKinds")) (by rfl) (CM.all "InvalidKinds" (by decide)) rfl) pa_nil))) pa_nil))) pa_nil)))))
    (pss_cons (ps_set (i := 1) sc_law_kind_of.nd rfl (by first | exact Or.inl rfl | exact Or.inr rfl) (pe_op op_cat (pv 1) (pe_lst (pa_cons (pe_tup (pa_cons pe_str (pa_cons (pe_callB call_isK (by rfl) T.n_isinstance (by decide +kernel) (pa_cons (pv 0) (pa_cons (pe_glob (v := .ref (CA "InvalidItems")) (by rfl) (CM.all "InvalidItems" (by decide)) rfl) pa_nil))) pa_nil))) (pa_cons (pe_tup (pa_cons pe_str (pa_cons (pe_callB call_isK (by rfl) T.n_isinstance (by decide +kernel) (pa_cons (pv 0) (pa_cons (pe_glob (v := .ref (CA "InvalidNumber")) (by rfl) (CM.all "InvalidNumber" (by decide)) rfl) pa_nil))) pa_nil))) pa_nil)))))
    (pss_cons (ps_set (i := 1) sc_law_kind_of.nd rfl (by first | exact Or.inl rfl | exact Or.inr rfl) (pe_op op_cat (pv 1) (pe_lst (pa_cons (pe_tup (pa_cons pe_str (pa_cons (pe_callB call_isK (by rfl) T.n_isinstance (by decide +kernel) (pa_cons (pv 0) (pa_cons (pe_glob (v := .ref (CA "InvalidEffects")) (by rfl) (CM.all "InvalidEffects" (by decide)) rfl) pa_nil))) pa_nil))) (pa_cons (pe_tup (pa_cons pe_str (pa_cons (pe_callB call_isK (by rfl) T.n_isinstance (by decide +kernel) (pa_cons (pv 0) (pa_cons (pe_glob (v := .ref (CA "InvalidCounts")) (by rfl) (CM.all "InvalidCounts" (by decide)) rfl) pa_nil))) pa_nil))) pa_nil)))))
    (pss_cons (ps_set (i := 1) sc_law_kind_of.nd rfl (by first | exact Or.inl rfl | exact Or.inr rfl) (pe_op op_cat (pv 1) (pe_lst (pa_cons (pe_tup (pa_cons pe_str (pa_cons (pe_callB call_isK (by rfl) T.n_isinstance (by decide +kernel) (pa_cons (pv 0) (pa_cons (pe_glob (v := .ref (CA "TooLong")) (by rfl) (CM.all "TooLong" (by decide)) rfl) pa_nil))) pa_nil))) (pa_cons (pe_tup (pa_cons pe_str (pa_cons (pe_callB call_isK (by rfl) T.n_isinstance (by decide +kernel) (pa_cons (pv 0) (pa_cons (pe_glob (v := .ref (CA "TooMany")) (by rfl) (CM.all "TooMany" (by decide)) rfl) pa_nil))) pa_nil))) pa_nil)))))
    (pss_cons (ps_set (i := 1) sc_law_kind_of.nd rfl (by first | exact Or.inl rfl | exact Or.inr rfl) (pe_op op_cat (pv 1) (pe_lst (pa_cons (pe_tup (pa_cons pe_str (pa_cons (pe_callB call_isK (by rfl) T.n_isinstance (by decide +kernel) (pa_cons (pv 0) (pa_cons (pe_glob (v := .ref (CA "Impossible")) (by rfl) (CM.all "Impossible" (by decide)) rfl) pa_nil))) pa_nil))) (pa_cons (pe_tup (pa_cons pe_str (pa_cons (pe_callB call_isK (by rfl) T.n_isinstance (by decide +kernel) (pa_cons (pv 0) (pa_cons (pe_glob (v := .ref (CA "SameEffect")) (by rfl) (CM.all "SameEffect" (by decide)) rfl) pa_nil))) pa_nil))) pa_nil)))))
    (pss_cons (ps_set (i := 1) sc_law_kind_of.nd rfl (by first | exact Or.inl rfl | exact Or.inr rfl) (pe_op op_cat (pv 1) (pe_lst (pa_cons (pe_tup (pa_cons pe_str (pa_cons (pe_callB call_isK (by rfl) T.n_isinstance (by decide +kernel) (pa_cons (pv 0) (pa_cons (pe_glob (v := .ref (CA "InvalidPosition")) (by rfl) (CM.all "InvalidPosition" (by decide)) rfl) pa_nil))) pa_nil))) (pa_cons (pe_tup (pa_cons pe_str (pa_cons (pe_callB call_isK (by rfl) T.n_isinstance (by decide +kernel) (pa_cons (pv 0) (pa_cons (pe_glob (v := .ref (CA "InvalidRecord")) (by rfl) (CM.all "InvalidRecord" (by decide)) rfl) pa_nil))) pa_nil))) pa_nil)))))
    (pss_cons (ps_set (i := 1) sc_law_kind_of.nd rfl (by first | exact Or.inl rfl | exact Or.inr rfl) (pe_op op_cat (pv 1) (pe_lst (pa_cons (pe_tup (pa_cons pe_str (pa_cons (pe_callB call_isK (by rfl) T.n_isinstance (by decide +kernel) (pa_cons (pv 0) (pa_cons (pe_glob (v := .ref (CA "InvalidCommand")) (by rfl) (CM.all "InvalidCommand" (by decide)) rfl) pa_nil))) pa_nil))) (pa_cons (pe_tup (pa_cons pe_str (pa_cons (pe_callB call_isK (by rfl) T.n_isinstance (by decide +kernel) (pa_cons (pv 0) (pa_cons (pe_glob (v := .ref (CA "InvalidText")) (by rfl) (CM.all "InvalidText" (by decide)) rfl) pa_nil))) pa_nil))) pa_nil)))))
    (pss_cons (ps_set (i := 1) sc_law_kind_of.nd rfl (by first | exact Or.inl rfl | exact Or.inr rfl) (pe_op op_cat (pv 1) (pe_lst (pa_cons (pe_tup (pa_cons pe_str (pa_cons (pe_callB call_isK (by rfl) T.n_isinstance (by decide +kernel) (pa_cons (pv 0) (pa_cons (pe_glob (v := .ref (CA "Contradiction")) (by rfl) (CM.all "Contradiction" (by decide)) rfl) pa_nil))) pa_nil))) (pa_cons (pe_tup (pa_cons pe_str (pa_cons (pe_callB call_isK (by rfl) T.n_isinstance (by decide +kernel) (pa_cons (pv 0) (pa_cons (pe_glob (v := .ref (CA "NothingToUndo")) (by rfl) (CM.all "NothingToUndo" (by decide)) rfl) pa_nil))) pa_nil))) pa_nil)))))
    (pss_cons (ps_setLc (i := 2) (own := [("name", 3), ("is_one", 4)]) rfl sc_law_kind_of.nd rfl rfl (sw_true rfl rfl rfl (by decide +kernel)) (pi_list (pv 1)) (blkOk_by (N := ["e", "names", "found", "name", "is_one"]) (sc := defScope s_law_kind_of) (by decide +kernel)) (fun _ _ _ _ _ => (pg_tupK (K := K) (n := 2) rfl rfl (pgs_cons (pg_name (i := 3) sc_law_kind_of.nd rfl (by first | exact Or.inl rfl | exact Or.inr rfl)) (pgs_cons (pg_name (i := 4) sc_law_kind_of.nd rfl (by first | exact Or.inl rfl | exact Or.inr rfl)) pgs_nil)))) (fun _ _ _ _ _ => pts_one (pt_val (pv 4))) (fun _ _ _ _ _ => (pv 3)))
    (pss_one (ps_ret (pe_ifExp (PW.pt (pw_and (pt_cmpR op_eq (pe_callB call_len_seq (by rfl) T.n_len (by decide +kernel) (pa_cons (pv 2) pa_nil)) pe_int (nomark _)) (pw_and1 (pt_val (pe_callB call_isK (by rfl) T.n_isinstance (by decide +kernel) (pa_cons (pv 0) (pa_cons (pe_bltn (v := .ty "ValueError") (by rfl) T.n_ValueError (by decide +kernel) rfl) pa_nil))))))) (pe_ix ix_list (pv 2) pe_int (fun _ _ => rfl)) pe_str))))))))))))), ?_⟩
    refine lit_set (d := .lst [.tup [.str "sequence", .bl (decide (("InvalidSequence" : Str) = nm))], .tup [.str "state", .bl (decide (("InvalidState" : Str) = nm))]]) (lit_lst (lits_cons (lit_tup (lits_cons lit_str (lits_cons (lit_is rfl hE C.ex (ki "InvalidSequence" (by decide +kernel))) lits_nil)) (Nat.le_of_ble_eq_true rfl)) (lits_cons (lit_tup (lits_cons lit_str (lits_cons (lit_is rfl hE C.ex (ki "InvalidState" (by decide +kernel))) lits_nil)) (Nat.le_of_ble_eq_true rfl)) lits_nil)) (Nat.le_of_ble_eq_true rfl)) (fun H1 v1 s1 r1 => ?_)
    have hE1 := s1 _ _ hE
    refine lit_set (d := .lst ([.tup [.str "sequence", .bl (decide (("InvalidSequence" : Str) = nm))], .tup [.str "state", .bl (decide (("InvalidState" : Str) = nm))]] ++ [.tup [.str "kind", .bl (decide (("InvalidKind" : Str) = nm))], .tup [.str "kinds", .bl (decide (("InvalidKinds" : Str) = nm))]])) (lit_cat (lit_var rfl r1) (lit_lst (lits_cons (lit_tup (lits_cons lit_str (lits_cons (lit_is rfl hE1 C.ex (ki "InvalidKind" (by decide +kernel))) lits_nil)) (Nat.le_of_ble_eq_true rfl)) (lits_cons (lit_tup (lits_cons lit_str (lits_cons (lit_is rfl hE1 C.ex (ki "InvalidKinds" (by decide +kernel))) lits_nil)) (Nat.le_of_ble_eq_true rfl)) lits_nil)) (Nat.le_of_ble_eq_true rfl)) (Nat.le_of_ble_eq_true rfl)) (fun H2 v2 s2 r2 => ?_)
    have hE2 := s2 _ _ hE1
    refine lit_set (d := .lst (([.tup [.str "sequence", .bl (decide (("InvalidSequence" : Str) = nm))], .tup [.str "state", .bl (decide (("InvalidState" : Str) = nm))]] ++ [.tup [.str "kind", .bl (decide (("InvalidKind" : Str) = nm))], .tup [.str "kinds", .bl (decide (("InvalidKinds" : Str) = nm))]]) ++ [.tup [.str "items", .bl (decide (("InvalidItems" : Str) = nm))], .tup [.str "number", .bl (decide (("InvalidNumber" : Str) = nm))]])) (lit_cat (lit_var rfl r2) (lit_lst (lits_cons (lit_tup (lits_cons lit_str (lits_cons (lit_is rfl hE2 C.ex (ki "InvalidItems" (by decide +kernel))) lits_nil)) (Nat.le_of_ble_eq_true rfl)) (lits_cons (lit_tup (lits_cons lit_str (lits_cons (lit_is rfl hE2 C.ex (ki "InvalidNumber" (by decide +kernel))) lits_nil)) (Nat.le_of_ble_eq_true rfl)) lits_nil)) (Nat.le_of_ble_eq_true rfl)) (Nat.le_of_ble_eq_true rfl)) (fun H3 v3 s3 r3 => ?_)
    have hE3 := s3 _ _ hE2
    refine lit_set (d := .lst ((([.tup [.str "sequence", .bl (decide (("InvalidSequence" : Str) = nm))], .tup [.str "state", .bl (decide (("InvalidState" : Str) = nm))]] ++ [.tup [.str "kind", .bl (decide (("InvalidKind" : Str) = nm))], .tup [.str "kinds", .bl (decide (("InvalidKinds" : Str) = nm))]]) ++ [.tup [.str "items", .bl (decide (("InvalidItems" : Str) = nm))], .tup [.str "number", .bl (decide (("InvalidNumber" : Str) = nm))]]) ++ [.tup [.str "effects", .bl (decide (("InvalidEffects" : Str) = nm))], .tup [.str "counts", .bl (decide (("InvalidCounts" : Str) = nm))]])) (lit_cat (lit_var rfl r3) (lit_lst (lits_cons (lit_tup (lits_cons lit_str (lits_cons (lit_is rfl hE3 C.ex (ki "InvalidEffects" (by decide +kernel))) lits_nil)) (Nat.le_of_ble_eq_true rfl)) (lits_cons (lit_tup (lits_cons lit_str (lits_cons (lit_is rfl hE3 C.ex (ki "InvalidCounts" (by decide +kernel))) lits_nil)) (Nat.le_of_ble_eq_true rfl)) lits_nil)) (Nat.le_of_ble_eq_true rfl)) (Nat.le_of_ble_eq_true rfl)) (fun H4 v4 s4 r4 => ?_)
    have hE4 := s4 _ _ hE3
    refine lit_set (d := .lst (((([.tup [.str "sequence", .bl (decide (("InvalidSequence" : Str) = nm))], .tup [.str "state", .bl (decide (("InvalidState" : Str) = nm))]] ++ [.tup [.str "kind", .bl (decide (("InvalidKind" : Str) = nm))], .tup [.str "kinds", .bl (decide (("InvalidKinds" : Str) = nm))]]) ++ [.tup [.str "items", .bl (decide (("InvalidItems" : Str) = nm))], .tup [.str "number", .bl (decide (("InvalidNumber" : Str) = nm))]]) ++ [.tup [.str "effects", .bl (decide (("InvalidEffects" : Str) = nm))], .tup [.str "counts", .bl (decide (("InvalidCounts" : Str) = nm))]]) ++ [.tup [.str "long", .bl (decide (("TooLong" : Str) = nm))], .tup [.str "many", .bl (decide (("TooMany" : Str) = nm))]])) (lit_cat (lit_var rfl r4) (lit_lst (lits_cons (lit_tup (lits_cons lit_str (lits_cons (lit_is rfl hE4 C.ex (ki "TooLong" (by decide +kernel))) lits_nil)) (Nat.le_of_ble_eq_true rfl)) (lits_cons (lit_tup (lits_cons lit_str (lits_cons (lit_is rfl hE4 C.ex (ki "TooMany" (by decide +kernel))) lits_nil)) (Nat.le_of_ble_eq_true rfl)) lits_nil)) (Nat.le_of_ble_eq_true rfl)) (Nat.le_of_ble_eq_true rfl)) (fun H5 v5 s5 r5 => ?_)
    have hE5 := s5 _ _ hE4
    refine lit_set (d := .lst ((((([.tup [.str "sequence", .bl (decide (("InvalidSequence" : Str) = nm))], .tup [.str "state", .bl (decide (("InvalidState" : Str) = nm))]] ++ [.tup [.str "kind", .bl (decide (("InvalidKind" : Str) = nm))], .tup [.str "kinds", .bl (decide (("InvalidKinds" : Str) = nm))]]) ++ [.tup [.str "items", .bl (decide (("InvalidItems" : Str) = nm))], .tup [.str "number", .bl (decide (("InvalidNumber" : Str) = nm))]]) ++ [.tup [.str "effects", .bl (decide (("InvalidEffects" : Str) = nm))], .tup [.str "counts", .bl (decide (("InvalidCounts" : Str) = nm))]]) ++ [.tup [.str "long", .bl (decide (("TooLong" : Str) = nm))], .tup [.str "many", .bl (decide (("TooMany" : Str) = nm))]]) ++ [.tup [.str "impossible", .bl (decide (("Impossible" : Str) = nm))], .tup [.str "same", .bl (decide (("SameEffect" : Str) = nm))]])) (lit_cat (lit_var rfl r5) (lit_lst (lits_cons (lit_tup (lits_cons lit_str (lits_cons (lit_is rfl hE5 C.ex (ki "Impossible" (by decide +kernel))) lits_nil)) (Nat.le_of_ble_eq_true rfl)) (lits_cons (lit_tup (lits_cons lit_str (lits_cons (lit_is rfl hE5 C.ex (ki "SameEffect" (by decide +kernel))) lits_nil)) (Nat.le_of_ble_eq_true rfl)) lits_nil)) (Nat.le_of_ble_eq_true rfl)) (Nat.le_of_ble_eq_true rfl)) (fun H6 v6 s6 r6 => ?_)
    have hE6 := s6 _ _ hE5
    refine lit_set (d := .lst (((((([.tup [.str "sequence", .bl (decide (("InvalidSequence" : Str) = nm))], .tup [.str "state", .bl (decide (("InvalidState" : Str) = nm))]] ++ [.tup [.str "kind", .bl (decide (("InvalidKind" : Str) = nm))], .tup [.str "kinds", .bl (decide (("InvalidKinds" : Str) = nm))]]) ++ [.tup [.str "items", .bl (decide (("InvalidItems" : Str) = nm))], .tup [.str "number", .bl (decide (("InvalidNumber" : Str) = nm))]]) ++ [.tup [.str "effects", .bl (decide (("InvalidEffects" : Str) = nm))], .tup [.str "counts", .bl (decide (("InvalidCounts" : Str) = nm))]]) ++ [.tup [.str "long", .bl (decide (("TooLong" : Str) = nm))], .tup [.str "many", .bl (decide (("TooMany" : Str) = nm))]]) ++ [.tup [.str "impossible", .bl (decide (("Impossible" : Str) = nm))], .tup [.str "same", .bl (decide (("SameEffect" : Str) = nm))]]) ++ [.tup [.str "odd", .bl (decide (("InvalidPosition" : Str) = nm))], .tup [.str "odd", .bl (decide (("InvalidRecord" : Str) = nm))]])) (lit_cat (lit_var rfl r6) (lit_lst (lits_cons (lit_tup (lits_cons lit_str (lits_cons (lit_is rfl hE6 C.ex (ki "InvalidPosition" (by decide +kernel))) lits_nil)) (Nat.le_of_ble_eq_true rfl)) (lits_cons (lit_tup (lits_cons lit_str (lits_cons (lit_is rfl hE6 C.ex (ki "InvalidRecord" (by decide +kernel))) lits_nil)) (Nat.le_of_ble_eq_true rfl)) lits_nil)) (Nat.le_of_ble_eq_true rfl)) (Nat.le_of_ble_eq_true rfl)) (fun H7 v7 s7 r7 => ?_)
    have hE7 := s7 _ _ hE6
    refine lit_set (d := .lst ((((((([.tup [.str "sequence", .bl (decide (("InvalidSequence" : Str) = nm))], .tup [.str "state", .bl (decide (("InvalidState" : Str) = nm))]] ++ [.tup [.str "kind", .bl (decide (("InvalidKind" : Str) = nm))], .tup [.str "kinds", .bl (decide (("InvalidKinds" : Str) = nm))]]) ++ [.tup [.str "items", .bl (decide (("InvalidItems" : Str) = nm))], .tup [.str "number", .bl (decide (("InvalidNumber" : Str) = nm))]]) ++ [.tup [.str "effects", .bl (decide (("InvalidEffects" : Str) = nm))], .tup [.str "counts", .bl (decide (("InvalidCounts" : Str) = nm))]]) ++ [.tup [.str "long", .bl (decide (("TooLong" : Str) = nm))], .tup [.str "many", .bl (decide (("TooMany" : Str) = nm))]]) ++ [.tup [.str "impossible", .bl (decide (("Impossible" : Str) = nm))], .tup [.str "same", .bl (decide (("SameEffect" : Str) = nm))]]) ++ [.tup [.str "odd", .bl (decide (("InvalidPosition" : Str) = nm))], .tup [.str "odd", .bl (decide (("InvalidRecord" : Str) = nm))]]) ++ [.tup [.str "odd", .bl (decide (("InvalidCommand" : Str) = nm))], .tup [.str "odd", .bl (decide (("InvalidText" : Str) = nm))]])) (lit_cat (lit_var rfl r7) (lit_lst (lits_cons (lit_tup (lits_cons lit_str (lits_cons (lit_is rfl hE7 C.ex (ki "InvalidCommand" (by decide +kernel))) lits_nil)) (Nat.le_of_ble_eq_true rfl)) (lits_cons (lit_tup (lits_cons lit_str (lits_cons (lit_is rfl hE7 C.ex (ki "InvalidText" (by decide +kernel))) lits_nil)) (Nat.le_of_ble_eq_true rfl)) lits_nil)) (Nat.le_of_ble_eq_true rfl)) (Nat.le_of_ble_eq_true rfl)) (fun H8 v8 s8 r8 => ?_)
    have hE8 := s8 _ _ hE7
    refine lit_set (d := .lst (((((((([.tup [.str "sequence", .bl (decide (("InvalidSequence" : Str) = nm))], .tup [.str "state", .bl (decide (("InvalidState" : Str) = nm))]] ++ [.tup [.str "kind", .bl (decide (("InvalidKind" : Str) = nm))], .tup [.str "kinds", .bl (decide (("InvalidKinds" : Str) = nm))]]) ++ [.tup [.str "items", .bl (decide (("InvalidItems" : Str) = nm))], .tup [.str "number", .bl (decide (("InvalidNumber" : Str) = nm))]]) ++ [.tup [.str "effects", .bl (decide (("InvalidEffects" : Str) = nm))], .tup [.str "counts", .bl (decide (("InvalidCounts" : Str) = nm))]]) ++ [.tup [.str "long", .bl (decide (("TooLong" : Str) = nm))], .tup [.str "many", .bl (decide (("TooMany" : Str) = nm))]]) ++ [.tup [.str "impossible", .bl (decide (("Impossible" : Str) = nm))], .tup [.str "same", .bl (decide (("SameEffect" : Str) = nm))]]) ++ [.tup [.str "odd", .bl (decide (("InvalidPosition" : Str) = nm))], .tup [.str "odd", .bl (decide (("InvalidRecord" : Str) = nm))]]) ++ [.tup [.str "odd", .bl (decide (("InvalidCommand" : Str) = nm))], .tup [.str "odd", .bl (decide (("InvalidText" : Str) = nm))]]) ++ [.tup [.str "odd", .bl (decide (("Contradiction" : Str) = nm))], .tup [.str "odd", .bl (decide (("NothingToUndo" : Str) = nm))]])) (lit_cat (lit_var rfl r8) (lit_lst (lits_cons (lit_tup (lits_cons lit_str (lits_cons (lit_is rfl hE8 C.ex (ki "Contradiction" (by decide +kernel))) lits_nil)) (Nat.le_of_ble_eq_true rfl)) (lits_cons (lit_tup (lits_cons lit_str (lits_cons (lit_is rfl hE8 C.ex (ki "NothingToUndo" (by decide +kernel))) lits_nil)) (Nat.le_of_ble_eq_true rfl)) lits_nil)) (Nat.le_of_ble_eq_true rfl)) (Nat.le_of_ble_eq_true rfl)) (fun H9 v9 s9 r9 => ?_)
    have hE9 := s9 _ _ hE8
    have r10 : Rp H9 v9 (.lst ((nlist nm).map tpD)) := r9
    have sA := s1.trans (s2.trans (s3.trans (s4.trans (s5.trans (s6.trans (s7.trans (s8.trans s9)))))))
    clear r1 r2 r3 r4 r5 r6 r7 r8 r9
    obtain ⟨p, xs, rfl, hx, lx, at_⟩ := tp_at r10
    have one := name_one nm hn
    have l18 : (nlist nm).length = 18 := rfl
    generalize nlist nm = L at *
    refine ⟨_, rfl, p, rfl, ⟨xs, .of hx⟩, fun F nF => lc_list (K := K) (a := p) (xs := xs) (fun i H' => Same H9 H' ∧ H' F = some (.lst ((((L.take i).filter (·.2)).map (·.1)).map V.str))) ⟨same_upd nF, upd_same⟩ (fun i H' _ p => .of (p.1 _ _ hx)) (fun i x H10 ex hP => ?_) (fun H10 hP => ?_)⟩
    · obtain ⟨sm, hF⟩ := hP
      obtain ⟨pp, t, epp, rfl, ht⟩ := at_ i x ex
      have hi : i < xs.length := (List.getElem?_eq_some_iff.mp ex).1
      refine ⟨t, _, rfl, .of (sm _ _ ht), rfl, _, _, rfl, _, _, rfl, rfl, rfl, _, rfl, _, rfl, ite2 (fun hb => ?_) (fun hb => ?_)⟩
      · refine ⟨_, rfl, _, hF, ?_, same_grow nF sm, ?_⟩
        · have h1 := List.length_filter_le (fun q : Str × Bool => q.2) (L.take i)
          rw [List.length_take] at h1
          rw [List.length_map, List.length_map]
          exact small (by omega)
        · rw [upd_same, take_snoc epp, List.filter_append, List.filter_cons_of_pos (p := fun q : Str × Bool => q.2) hb, List.map_append, List.map_append]
          rfl
      · refine ⟨sm, ?_⟩
        rw [take_snoc epp, List.filter_append, List.filter_cons_of_neg (p := fun q : Str × Bool => q.2) hb, List.filter_nil, List.append_nil]
        exact hF
    obtain ⟨s10, hF⟩ := hP
    rw [List.take_of_length_le (by omega), one] at hF
    have hF : H10 F = some (.lst [.str (nameOf nm)]) := hF
    refine ⟨_, rfl, F, _, rfl, .inl (.of hF), rfl, _, rfl, iteP rfl ⟨_, rfl, a, _, _, _, _, rfl, s10 _ _ hE9, C.ex, (fun u r => r), C.kv, _, rfl, iteT ?_⟩⟩
    exact ⟨_, rfl, F, _, 0, _, rfl, rfl, .of hF, rfl, q _ (sA.trans s10)⟩
end
end UP

set_option Elab.async false
set_option linter.all false
set_option maxRecDepth 100000
set_option maxHeartbeats 4000000
namespace UP
open PySem PySem.Spec PyProof.Rows L2
/-! ### a heap without one address -/
theorem delH_sub {H : Hp} {a : Addr} : Same (delH H a) H := fun b o e => by
  by_cases h : b = a
  · rw [h, delH_same] at e
    cases e
  · rw [delH_ne h] at e
    exact e
theorem delH_mono {H H' : Hp} {a : Addr} (s : Same H H') : Same (delH H a) (delH H' a) := fun b o e => by
  by_cases h : b = a
  · rw [h, delH_same] at e
    cases e
  · rw [delH_ne h] at e ⊢
    exact s _ _ e
theorem delH_upd {H : Hp} {a : Addr} {o : HO} : delH (upd H a o) a = delH H a := by
  funext b
  by_cases h : b = a
  · rw [h, delH_same, delH_same]
  · rw [delH_ne h, delH_ne h, upd_ne h]
theorem newH_del {H0 H : Hp} {a : Addr} {o : HO} (h : H0 a = some o) : Same (newH H0 H) (delH H a) := fun b u e => by
  by_cases hb : b = a
  · rw [hb, newH_old h] at e
    cases e
  · rw [delH_ne hb]
    exact newH_sub _ _ e
theorem newH_butR {H0 H H' : Hp} {p : Addr} (z : Reel H0 p) (b : RB p H H') : Same (newH H0 H) (newH H0 H') := fun x o e => by
  cases h : H0 x with
  | none =>
    rw [newH_at h] at e ⊢
    refine b.but _ _ (fun q => ?_) e
    rw [q] at h
    exact absurd rfl (z.ne h)
  | some o' =>
    rw [newH_old h] at e
    cases e
theorem delH_RB {H H' : Hp} {p : Addr} (b : RB p H H') : Same (delH H p) (delH H' p) := fun x o e => by
  by_cases h : x = p
  · rw [h, delH_same] at e
    cases e
  · rw [delH_ne h] at e ⊢
    exact b.but _ _ h e
theorem Reel.at {H : Hp} {p : Addr} (z : Reel H p) : ∃ o, H p = some o := by
  obtain ⟨_, _, _, _, _, _, h, _⟩ := z
  exact ⟨_, h⟩
/-! ### the menus -/
theorem strs_rp {H : Hp} {f : Nat → Str} : ∀ (l : List Nat), Paired (Rp H) (l.map fun c => V.str (f c)) (l.map fun c => Dat.str (f c))
  | [] => .nil
  | c :: t => .cons (.str _) (strs_rp t)
def bad0 : List Dat := [.non, .int 0, .str "a", .dic, .lst [.non], .lst [.tup [.str "a", .int 0]], .lst [.tup [.str "A", .int 1]], .lst [.tup [.str "a", .int 1], .tup [.str "a", .int 1]], .lst [.tup [.str "a"]], .lst [.tup [.str "a", .int 1, .int 1]]] ++ [.lst [.tup [.str "a", .bl true]], .lst [.tup [.str "a", .int ((10 : Int) ^ ((30 : Int).toNat) + 1)]], .lst [.tup [.str "abcdefghi", .int 1]], .tup [.str "a", .int 1], .lst [.tup [.str "a", .str "1"]], .lst [.lst [.str "", .int 1]]]
def bad1 : List Dat := [.int 0, .bl true, .str "a", .tup [], .lst [], .tup [.str "a"], .tup [.str "a", .int 0], .tup [.str "a", .int (-1)], .tup [.str "A", .int 1], .tup [.str "a", .bl true], .tup [.str "a", .int 1, .int 1], .tup [.int 1, .str "a"], .dic]
def bad2 : List Dat := [.non, .int 0, .str "", .str "A", .str "abcdefghi", .lst [.str "a"], .tup [.str "a"], .str "a b", .bl true, .str "a1"]
def kl (z : Str) : List Dat := z.cps.toList.map fun c => .str (("k" : Str) ++ ⟨#[c]⟩)
def bad3 : List Dat := [.non, .int 0, .str "a", .lst [], .lst [.str "b", .str "a"], .lst [.str "a", .str "a"], .lst [.str "A"], .lst [.int 1], .lst [.non], .dic, .lst [.str "a", .str ""]] ++ [.str "abcdefghijklm", .lst (kl "abcdefghijklm")]
def badM (k : Int) : List Dat := if k = 0 then bad0 else if k = 1 then bad1 else if k = 2 then bad2 else bad3
section
variable {P : Program} {w : World} {K : PySem.W.Frag} {mg : Str → Option Value} {base : Heap}
/-! _law_bad: slots 0:reel 1:which 2:some 3:letter -/
abbrev s_law_bad : Stmt := topS 62
theorem sc_law_bad : FnScope ["reel", "which", "some", "letter"] ["reel", "which"] (defScope s_law_bad) := ⟨rfl, rfl, rfl, by decide +kernel, rfl, by decide +kernel, by decide +kernel⟩
def sp_law_bad : Sp := fun vs H Q _ => ∃ (p : Addr) (k : Int), vs = [.ref p, .int k] ∧ Reel H p ∧ 0 ≤ k ∧ k ≤ 3 ∧ ∀ H' v d, RB p H H' → Reel H' p → d ∈ badM k → Rp (delH H' p) v d → Q v H'
theorem ok_law_bad (D : Df K mg "_law_bad" s_law_bad) (T : Tx mg) (G_law_draw : Has P w K mg base 1 "_law_draw" ["reel", "many"] sp_law_draw) : Has P w K mg base 2 "_law_bad" ["reel", "which"] sp_law_bad := by
  refine has_of D sc_law_bad (fun _ _ _ _ _ _ us hl => match us, hl with | [_, _], _ => rfl) (fun vs H Q E h => ?_) (fun f cdv A outer s₀ H vs Q E hr h => ?_)
  · obtain ⟨_, _, rfl, _⟩ := h
    rfl
  · obtain ⟨p, k, rfl, hz, k0, k3, q⟩ := h
    obtain ⟨op, hp⟩ := hz.at
    refine ⟨_, (pss_cons (ps_if (pt_cmpR op_eq (pv 1) pe_int (nomark _)) (pss_cons (ps_set (i := 2) sc_law_bad.nd rfl (by first | exact Or.inl rfl | exact Or.inr rfl) (pe_lst (pa_cons pe_non (pa_cons pe_int (pa_cons pe_str (pa_cons pe_dnewK (pa_cons (pe_lst (pa_cons pe_non pa_nil)) (pa_cons (pe_lst (pa_cons (pe_tup (pa_cons pe_str (pa_cons pe_int pa_nil))) pa_nil)) (pa_cons (pe_lst (pa_cons (pe_tup (pa_cons pe_str (pa_cons pe_int pa_nil))) pa_nil)) (pa_cons (pe_lst (pa_cons (pe_tup (pa_cons pe_str (pa_cons pe_int pa_nil))) (pa_cons (pe_tup (pa_cons pe_str (pa_cons pe_int pa_nil))) pa_nil))) (pa_cons (pe_lst (pa_cons (pe_tup (pa_cons pe_str pa_nil)) pa_nil)) (pa_cons (pe_lst (pa_cons (pe_tup (pa_cons pe_str (pa_cons pe_int (pa_cons pe_int pa_nil)))) pa_nil)) pa_nil))))))))))))
    (pss_cons (ps_set (i := 2) sc_law_bad.nd rfl (by first | exact Or.inl rfl | exact Or.inr rfl) (pe_op op_cat (pv 2) (pe_lst (pa_cons (pe_lst (pa_cons (pe_tup (pa_cons pe_str (pa_cons pe_bl pa_nil))) pa_nil)) (pa_cons (pe_lst (pa_cons (pe_tup (pa_cons pe_str (pa_cons (pe_op op_add (pe_op op_pow pe_int pe_int) pe_int) pa_nil))) pa_nil)) (pa_cons (pe_lst (pa_cons (pe_tup (pa_cons pe_str (pa_cons pe_int pa_nil))) pa_nil)) (pa_cons (pe_tup (pa_cons pe_str (pa_cons pe_int pa_nil))) (pa_cons (pe_lst (pa_cons (pe_tup (pa_cons pe_str (pa_cons pe_str pa_nil))) pa_nil)) (pa_cons (pe_lst (pa_cons (pe_lst (pa_cons pe_str (pa_cons pe_int pa_nil))) pa_nil)) pa_nil)))))))))
    (pss_one (ps_ret (pe_ix ix_list (pv 2) (pe_callH G_law_draw (hr.mono (by omega)) (by rfl) (pa_cons (pv 0) (pa_cons pe_int pa_nil))) (fun _ _ => rfl)))))) pss_nil)
    (pss_cons (ps_if (pt_cmpR op_eq (pv 1) pe_int (nomark _)) (pss_cons (ps_set (i := 2) sc_law_bad.nd rfl (by first | exact Or.inl rfl | exact Or.inr rfl) (pe_lst (pa_cons pe_int (pa_cons pe_bl (pa_cons pe_str (pa_cons (pe_tup pa_nil) (pa_cons (pe_lst pa_nil) (pa_cons (pe_tup (pa_cons pe_str pa_nil)) (pa_cons (pe_tup (pa_cons pe_str (pa_cons pe_int pa_nil))) (pa_cons (pe_tup (pa_cons pe_str (pa_cons (pe_un un_neg pe_int) pa_nil))) (pa_cons (pe_tup (pa_cons pe_str (pa_cons pe_int pa_nil))) (pa_cons (pe_tup (pa_cons pe_str (pa_cons pe_bl pa_nil))) (pa_cons (pe_tup (pa_cons pe_str (pa_cons pe_int (pa_cons pe_int pa_nil)))) (pa_cons (pe_tup (pa_cons pe_int (pa_cons pe_str pa_nil))) (pa_cons pe_dnewK pa_nil)))))))))))))))
    (pss_one (ps_ret (pe_ix ix_list (pv 2) (pe_callH G_law_draw (hr.mono (by omega)) (by rfl) (pa_cons (pv 0) (pa_cons pe_int pa_nil))) (fun _ _ => rfl))))) pss_nil)
    (pss_cons (ps_if (pt_cmpR op_eq (pv 1) pe_int (nomark _)) (pss_one (ps_ret (pe_ix ix_list (pe_lst (pa_cons pe_non (pa_cons pe_int (pa_cons pe_str (pa_cons pe_str (pa_cons pe_str (pa_cons (pe_lst (pa_cons pe_str pa_nil)) (pa_cons (pe_tup (pa_cons pe_str pa_nil)) (pa_cons pe_str (pa_cons pe_bl (pa_cons pe_str pa_nil))))))))))) (pe_callH G_law_draw (hr.mono (by omega)) (by rfl) (pa_cons (pv 0) (pa_cons pe_int pa_nil))) (fun _ _ => rfl)))) pss_nil)
    (pss_cons (ps_set (i := 2) sc_law_bad.nd rfl (by first | exact Or.inl rfl | exact Or.inr rfl) (pe_lst (pa_cons pe_non (pa_cons pe_int (pa_cons pe_str (pa_cons (pe_lst pa_nil) (pa_cons (pe_lst (pa_cons pe_str (pa_cons pe_str pa_nil))) (pa_cons (pe_lst (pa_cons pe_str (pa_cons pe_str pa_nil))) (pa_cons (pe_lst (pa_cons pe_str pa_nil)) (pa_cons (pe_lst (pa_cons pe_int pa_nil)) (pa_cons (pe_lst (pa_cons pe_non pa_nil)) (pa_cons pe_dnewK (pa_cons (pe_lst (pa_cons pe_str (pa_cons pe_str pa_nil))) pa_nil)))))))))))))
    (pss_one (ps_ret (pe_ix ix_list (pe_op op_cat (pv 2) (pe_lst (pa_cons pe_str (pa_cons (pe_lc (own := [("letter", 3)]) rfl sc_law_bad.nd (pi_str pe_str) (blkOk_by (N := ["reel", "which", "some", "letter"]) (sc := defScope s_law_bad) (by decide +kernel)) (fun _ _ _ _ _ => (pg_name (i := 3) sc_law_bad.nd rfl (by first | exact Or.inl rfl | exact Or.inr rfl))) (fun _ _ _ _ _ => pts_nil) (fun _ _ _ _ _ => (pe_op op_add_str pe_str (pv 3)))) pa_nil)))) (pe_callH G_law_draw (hr.mono (by omega)) (by rfl) (pa_cons (pv 0) (pa_cons pe_int pa_nil))) (fun _ _ => rfl)))))))), ?_⟩
    rcases (show k = 0 ∨ k = 1 ∨ k = 2 ∨ k = 3 by omega) with rfl | rfl | rfl | rfl
    · refine ⟨_, rfl, rfl, _, rfl, iteP rfl ?_⟩
      refine litF_set (Same.refl _) (d := .lst [.non, .int 0, .str "a", .dic, .lst [.non], .lst [.tup [.str "a", .int 0]], .lst [.tup [.str "A", .int 1]], .lst [.tup [.str "a", .int 1], .tup [.str "a", .int 1]], .lst [.tup [.str "a"]], .lst [.tup [.str "a", .int 1, .int 1]]]) (litF_lst (litsF_cons litF_non (litsF_cons litF_int (litsF_cons litF_str (litsF_cons litF_dic (litsF_cons (litF_lst (litsF_cons litF_non litsF_nil) (Nat.le_of_ble_eq_true rfl)) (litsF_cons (litF_lst (litsF_cons (litF_tup (litsF_cons litF_str (litsF_cons litF_int litsF_nil)) (Nat.le_of_ble_eq_true rfl)) litsF_nil) (Nat.le_of_ble_eq_true rfl)) (litsF_cons (litF_lst (litsF_cons (litF_tup (litsF_cons litF_str (litsF_cons litF_int litsF_nil)) (Nat.le_of_ble_eq_true rfl)) litsF_nil) (Nat.le_of_ble_eq_true rfl)) (litsF_cons (litF_lst (litsF_cons (litF_tup (litsF_cons litF_str (litsF_cons litF_int litsF_nil)) (Nat.le_of_ble_eq_true rfl)) (litsF_cons (litF_tup (litsF_cons litF_str (litsF_cons litF_int litsF_nil)) (Nat.le_of_ble_eq_true rfl)) litsF_nil)) (Nat.le_of_ble_eq_true rfl)) (litsF_cons (litF_lst (litsF_cons (litF_tup (litsF_cons litF_str litsF_nil) (Nat.le_of_ble_eq_true rfl)) litsF_nil) (Nat.le_of_ble_eq_true rfl)) (litsF_cons (litF_lst (litsF_cons (litF_tup (litsF_cons litF_str (litsF_cons litF_int (litsF_cons litF_int litsF_nil))) (Nat.le_of_ble_eq_true rfl)) litsF_nil) (Nat.le_of_ble_eq_true rfl)) litsF_nil)))))))))) (Nat.le_of_ble_eq_true rfl)) (fun H1 v1 s1 r1 => ?_)
      refine litF_set s1 (d := .lst bad0) (litF_cat (litF_var rfl r1) (litF_lst (litsF_cons (litF_lst (litsF_cons (litF_tup (litsF_cons litF_str (litsF_cons litF_bl litsF_nil)) (Nat.le_of_ble_eq_true rfl)) litsF_nil) (Nat.le_of_ble_eq_true rfl)) (litsF_cons (litF_lst (litsF_cons (litF_tup (litsF_cons litF_str (litsF_cons (litF_val (v := .int ((10 : Int) ^ ((30 : Int).toNat) + 1)) (fun H Q q => ⟨_, _, rfl, rfl, ⟨by decide, by decide, by decide⟩, _, _, rfl, rfl, q⟩) (fun H => .int _)) litsF_nil)) (Nat.le_of_ble_eq_true rfl)) litsF_nil) (Nat.le_of_ble_eq_true rfl)) (litsF_cons (litF_lst (litsF_cons (litF_tup (litsF_cons litF_str (litsF_cons litF_int litsF_nil)) (Nat.le_of_ble_eq_true rfl)) litsF_nil) (Nat.le_of_ble_eq_true rfl)) (litsF_cons (litF_tup (litsF_cons litF_str (litsF_cons litF_int litsF_nil)) (Nat.le_of_ble_eq_true rfl)) (litsF_cons (litF_lst (litsF_cons (litF_tup (litsF_cons litF_str (litsF_cons litF_str litsF_nil)) (Nat.le_of_ble_eq_true rfl)) litsF_nil) (Nat.le_of_ble_eq_true rfl)) (litsF_cons (litF_lst (litsF_cons (litF_lst (litsF_cons litF_str (litsF_cons litF_int litsF_nil)) (Nat.le_of_ble_eq_true rfl)) litsF_nil) (Nat.le_of_ble_eq_true rfl)) litsF_nil)))))) (Nat.le_of_ble_eq_true rfl)) (Nat.le_of_ble_eq_true rfl)) (fun H2 v2 s2 r2 => ?_)
      refine ⟨_, rfl, _, rfl, p, 16, rfl, (hz.same s1).same s2, by decide, by decide, fun H3 r b3 z3 r0 r1' => ?_⟩
      have ix : r.toNat < bad0.length := by
        show r.toNat < 16
        omega
      obtain ⟨a, xs, x, rfl, hxs, ex, hx⟩ := rp_at (r2.same (newH_butR hz b3)) r0 ix
      exact ⟨a, xs, r, x, rfl, rfl, .of (newH_sub _ _ hxs), ex, q H3 x _ ((RB.of (s1.trans s2)).trans b3) z3 (List.getElem_mem ix) (hx.same (newH_del hp))⟩
    · refine ⟨_, rfl, rfl, _, rfl, iteN rfl ⟨_, rfl, rfl, _, rfl, iteP rfl ?_⟩⟩
      refine litF_set (Same.refl _) (d := .lst bad1) (litF_lst (litsF_cons litF_int (litsF_cons litF_bl (litsF_cons litF_str (litsF_cons (litF_tup litsF_nil (Nat.le_of_ble_eq_true rfl)) (litsF_cons (litF_lst litsF_nil (Nat.le_of_ble_eq_true rfl)) (litsF_cons (litF_tup (litsF_cons litF_str litsF_nil) (Nat.le_of_ble_eq_true rfl)) (litsF_cons (litF_tup (litsF_cons litF_str (litsF_cons litF_int litsF_nil)) (Nat.le_of_ble_eq_true rfl)) (litsF_cons (litF_tup (litsF_cons litF_str (litsF_cons (litF_val (v := .int (-1)) (fun H Q q => ⟨1, rfl, q⟩) (fun H => .int _)) litsF_nil)) (Nat.le_of_ble_eq_true rfl)) (litsF_cons (litF_tup (litsF_cons litF_str (litsF_cons litF_int litsF_nil)) (Nat.le_of_ble_eq_true rfl)) (litsF_cons (litF_tup (litsF_cons litF_str (litsF_cons litF_bl litsF_nil)) (Nat.le_of_ble_eq_true rfl)) (litsF_cons (litF_tup (litsF_cons litF_str (litsF_cons litF_int (litsF_cons litF_int litsF_nil))) (Nat.le_of_ble_eq_true rfl)) (litsF_cons (litF_tup (litsF_cons litF_int (litsF_cons litF_str litsF_nil)) (Nat.le_of_ble_eq_true rfl)) (litsF_cons litF_dic litsF_nil))))))))))))) (Nat.le_of_ble_eq_true rfl)) (fun H2 v2 s2 r2 => ?_)
      refine ⟨_, rfl, _, rfl, p, 13, rfl, hz.same s2, by decide, by decide, fun H3 r b3 z3 r0 r1' => ?_⟩
      have ix : r.toNat < bad1.length := by
        show r.toNat < 13
        omega
      obtain ⟨a, xs, x, rfl, hxs, ex, hx⟩ := rp_at (r2.same (newH_butR hz b3)) r0 ix
      exact ⟨a, xs, r, x, rfl, rfl, .of (newH_sub _ _ hxs), ex, q H3 x _ ((RB.of s2).trans b3) z3 (List.getElem_mem ix) (hx.same (newH_del hp))⟩
    · refine ⟨_, rfl, rfl, _, rfl, iteN rfl ⟨_, rfl, rfl, _, rfl, iteN rfl ⟨_, rfl, rfl, _, rfl, iteP rfl ?_⟩⟩⟩
      refine litF_retIx (Same.refl _) (ds := bad2) (litF_lst (litsF_cons litF_non (litsF_cons litF_int (litsF_cons litF_str (litsF_cons litF_str (litsF_cons litF_str (litsF_cons (litF_lst (litsF_cons litF_str litsF_nil) (Nat.le_of_ble_eq_true rfl)) (litsF_cons (litF_tup (litsF_cons litF_str litsF_nil) (Nat.le_of_ble_eq_true rfl)) (litsF_cons litF_str (litsF_cons litF_bl (litsF_cons litF_str litsF_nil)))))))))) (Nat.le_of_ble_eq_true rfl)) (fun H2 v2 s2 r2 => ?_)
      refine ⟨_, rfl, p, 10, rfl, hz.same s2, by decide, by decide, fun H3 r b3 z3 r0 r1' => ?_⟩
      have ix : r.toNat < bad2.length := by
        show r.toNat < 10
        omega
      obtain ⟨a, xs, x, rfl, hxs, ex, hx⟩ := rp_at (r2.same (newH_butR hz b3)) r0 ix
      exact ⟨a, xs, r, x, rfl, rfl, .of (newH_sub _ _ hxs), ex, q H3 x _ ((RB.of s2).trans b3) z3 (List.getElem_mem ix) (hx.same (newH_del hp))⟩
    · refine ⟨_, rfl, rfl, _, rfl, iteN rfl ⟨_, rfl, rfl, _, rfl, iteN rfl ⟨_, rfl, rfl, _, rfl, iteN rfl ?_⟩⟩⟩
      refine litF_set (Same.refl _) (d := .lst [.non, .int 0, .str "a", .lst [], .lst [.str "b", .str "a"], .lst [.str "a", .str "a"], .lst [.str "A"], .lst [.int 1], .lst [.non], .dic, .lst [.str "a", .str ""]]) (litF_lst (litsF_cons litF_non (litsF_cons litF_int (litsF_cons litF_str (litsF_cons (litF_lst litsF_nil (Nat.le_of_ble_eq_true rfl)) (litsF_cons (litF_lst (litsF_cons litF_str (litsF_cons litF_str litsF_nil)) (Nat.le_of_ble_eq_true rfl)) (litsF_cons (litF_lst (litsF_cons litF_str (litsF_cons litF_str litsF_nil)) (Nat.le_of_ble_eq_true rfl)) (litsF_cons (litF_lst (litsF_cons litF_str litsF_nil) (Nat.le_of_ble_eq_true rfl)) (litsF_cons (litF_lst (litsF_cons litF_int litsF_nil) (Nat.le_of_ble_eq_true rfl)) (litsF_cons (litF_lst (litsF_cons litF_non litsF_nil) (Nat.le_of_ble_eq_true rfl)) (litsF_cons litF_dic (litsF_cons (litF_lst (litsF_cons litF_str (litsF_cons litF_str litsF_nil)) (Nat.le_of_ble_eq_true rfl)) litsF_nil))))))))))) (Nat.le_of_ble_eq_true rfl)) (fun H1 v1 s1 r1 => ?_)
      refine litF_retIx s1 (ds := bad3) (litF_cat (litF_var rfl r1) (litF_lst (litsF_cons litF_str (litsF_cons (d := .lst (kl "abcdefghijklm")) (fun H Q s w q => by
        refine ⟨_, rfl, fun L nL => lc_gen (n := ("abcdefghijklm" : Str).cps.size) (fun i H' => Same H H' ∧ H' L = some (.lst ((("abcdefghijklm" : Str).cps.toList.take i).map fun c => V.str (("k" : Str) ++ ⟨#[c]⟩)))) ⟨same_upd nL, upd_same⟩ (fun i H' hi _ => hi) (fun H' _ => Nat.le_refl _) (fun i x H1 H2 hi p y => ?_) (fun H' p => ?_)⟩
        · obtain ⟨rfl, c, ec, rfl⟩ := y
          obtain ⟨sm, hL⟩ := p
          have ec' : ("abcdefghijklm" : Str).cps.toList[i]? = some c := by
            rw [Array.getElem?_toList]
            exact ec
          have hi : i < 13 := hi
          refine ⟨rfl, yesT ⟨_, rfl, _, _, rfl, rfl, smallE (by show 1 + 1 ≤ _; decide), _, hL, ?_, same_grow nL sm, ?_⟩⟩
          · rw [List.length_map, List.length_take]
            exact small (by omega)
          · rw [upd_same, take_snoc ec', List.map_append]
            rfl
        · obtain ⟨sm, hL⟩ := p
          rw [List.take_of_length_le (by rw [Array.length_toList]; exact Nat.le_refl _)] at hL
          refine q H' _ sm (.lst (by rw [newH_at (s.free nL)]; exact hL) ?_)
          exact strs_rp _) litsF_nil)) (Nat.le_of_ble_eq_true rfl)) (Nat.le_of_ble_eq_true rfl)) (fun H2 v2 s2 r2 => ?_)
      refine ⟨_, rfl, p, 13, rfl, (hz.same s1).same s2, by decide, by decide, fun H3 r b3 z3 r0 r1' => ?_⟩
      have ix : r.toNat < bad3.length := by
        show r.toNat < 13
        omega
      obtain ⟨a, xs, x, rfl, hxs, ex, hx⟩ := rp_at (r2.same (newH_butR hz b3)) r0 ix
      exact ⟨a, xs, r, x, rfl, rfl, .of (newH_sub _ _ hxs), ex, q H3 x _ ((RB.of (s1.trans s2)).trans b3) z3 (List.getElem_mem ix) (hx.same (newH_del hp))⟩
end
end UP

set_option Elab.async false
set_option linter.all false
set_option maxRecDepth 100000
set_option maxHeartbeats 4000000
/-! ### sorted(d.items()), d a dict of texts with ints -/
namespace UPS
open PySem PyProof.Rows SrtO Srt
def lexS (p q : Str × Int) : Bool := if p.1 = q.1 then decide (p.2 < q.2) else decide (p.1.cps.toList < q.1.cps.toList)
theorem lexS_no {p q : Str × Int} : lexS p q = false ↔ (p.1 = q.1 → ¬ p.2 < q.2) ∧ (p.1 ≠ q.1 → ¬ p.1.cps.toList < q.1.cps.toList) := by
  unfold lexS
  by_cases e : p.1 = q.1
  · rw [if_pos e, decide_eq_false_iff_not]
    exact ⟨fun h => ⟨fun _ => h, fun n => absurd e n⟩, fun h => h.1 e⟩
  · rw [if_neg e, decide_eq_false_iff_not]
    exact ⟨fun h => ⟨fun z => absurd z e, fun _ => h⟩, fun h => h.2 e⟩
theorem str_of {x y : Str} (h : x.cps.toList = y.cps.toList) : x = y := by
  cases x with
  | mk a =>
    cases y with
    | mk b =>
      congr 1
      exact Array.ext' h
theorem swoS : Swo lexS := by
  refine ⟨fun x y h => ?_, fun x y z h1 h2 => ?_⟩
  · refine lexS_no.mpr ⟨fun e => ?_, fun n => ?_⟩
    · unfold lexS at h
      rw [if_pos e.symm] at h
      have := of_decide_eq_true h
      omega
    · unfold lexS at h
      rw [if_neg fun z => n z.symm] at h
      exact List.lt_asymm (of_decide_eq_true h)
  · have a := lexS_no.mp h1
    have b := lexS_no.mp h2
    refine lexS_no.mpr ⟨fun e => ?_, fun n => ?_⟩
    · by_cases c : y.1 = x.1
      · have := a.1 c
        have := b.1 (e.trans c.symm)
        omega
      · exfalso
        have p := a.2 c
        have q := b.2 fun w => c (w.symm.trans e)
        rw [e] at q
        exact c (str_of (List.le_antisymm q p))
    · by_cases c : y.1 = x.1
      · rw [← c]
        exact b.2 fun w => n (w.trans c)
      · by_cases d : z.1 = y.1
        · rw [d]
          exact a.2 c
        · exact List.le_trans (a.2 c) (b.2 d)
/-- a tuple of a text and an int -/
def IsSI (h : Heap) (v : Value) (x : Str) (y : Int) : Prop := ∃ a o t u n, v = .ref a ∧ h.get? a = some o ∧ o.cls = .type "tuple" ∧ o.data = .seq #[.str x t, .int y u] n
theorem IsSI.keeps {h h' : Heap} {v : Value} {x : Str} {y : Int} (p : IsSI h v x y) (k : ∀ b o, h.get? b = some o → o.cls = .type "tuple" → h'.get? b = some o) : IsSI h' v x y := by
  obtain ⟨a, o, t, u, n, e, ho, hc, hd⟩ := p
  exact ⟨a, o, t, u, n, e, k _ _ ho hc, hc, hd⟩
theorem firsts_si {h : Heap} : ∀ {vs : List Value}, (∀ v ∈ vs, ∃ x y, IsSI h v x y) → ∃ fs : List Value, PySem.W.KatTups h vs fs ∧ fs.length = vs.length ∧ ∀ f ∈ fs, ∃ x t, f = Value.str x t
  | [], _ => ⟨[], PySem.W.KatTups.nil, rfl, fun f hf => by simp at hf⟩
  | v :: vs, x => by
    obtain ⟨fs, k, hl, hi⟩ := firsts_si (vs := vs) fun u hu => x u (List.mem_cons_of_mem _ hu)
    obtain ⟨y, z, a, o, t, u, n, rfl, ho, hc, hd⟩ := x v (List.mem_cons_self ..)
    refine ⟨.str y t :: fs, PySem.W.KatTups.cons ho hc hd rfl k, congrArg Nat.succ hl, fun f hf => ?_⟩
    rcases List.mem_cons.mp hf with e | e
    · exact ⟨y, t, e⟩
    · exact hi f e
section
variable {prog : Program} {w : World} {A : Around} {s : Shared} {E : Value → Shared → Prop}
theorem si_cmp {vs : List Value} {k : Value → Str × Int} (hp : ∀ v ∈ vs, IsSI s.heap v (k v).1 (k v).2) : Cmp prog w A s (tuples' true) (fun p => p.1 ∈ vs) (lt2 fun v u => lexS (k v) (k u)) := by
  intro p q hm hm'
  have h1 := hp _ hm
  have h2 := hp _ hm'
  show wpAny (model prog w) A (keyLt' (tuples' true) p.1 q.1) (fun r s' => s' = s ∧ r = lexS (k p.1) (k q.1)) (fun _ _ => False) s
  unfold lexS
  generalize (k p.1).1 = x at h1 ⊢
  generalize (k p.1).2 = y at h1 ⊢
  generalize (k q.1).1 = x' at h2 ⊢
  generalize (k q.1).2 = y' at h2 ⊢
  obtain ⟨a, o, t, u, n, e, ho, hc, hd⟩ := h1
  obtain ⟨a', o', t', u', n', e', ho', hc', hd'⟩ := h2
  rw [e, e']
  refine PySem.W.kat_lt ho hd ho' hd' ?_
  show PySem.W.KatLex prog w A true (decide (2 < 2)) _ [(.str x t, .str x' t'), (.int y u, .int y' u')] 0 s
  refine PySem.W.kat_cons (SeqAt.EqAt.str_str x t x' t' prog w _ _ ?_)
  refine PySem.W.kat_go (fun e1 => ?_) (fun e1 => ?_)
  · have ex : x = x' := by simpa using e1
    refine PySem.W.kat_yes (PySem.W.kat_cons (SeqAt.EqAt.int_int y u y' u' prog w _ _ ?_))
    refine PySem.W.kat_go (fun e2 => ?_) (fun e2 => ?_)
    · have ey : y = y' := by simpa using e2
      have e3 : (if x = x' then decide (y < y') else decide (x.cps.toList < x'.cps.toList)) = false := by
        rw [if_pos ex, ey]
        exact decide_eq_false (Int.lt_irrefl _)
      exact PySem.W.kat_yes (PySem.W.kat_nil ⟨rfl, e3.symm⟩)
    · have e3 : (if x = x' then decide (y < y') else decide (x.cps.toList < x'.cps.toList)) = decide (y < y') := if_pos ex
      refine PySem.W.kat_no (PySem.W.kat_one _ _ (PyProof.Rows.lt_int ?_))
      exact (show s = s ∧ decide (y < y') = (if x = x' then decide (y < y') else decide (x.cps.toList < x'.cps.toList)) from ⟨rfl, e3.symm⟩)
  · have ex : ¬ x = x' := by simpa using e1
    have e3 : (if x = x' then decide (y < y') else decide (x.cps.toList < x'.cps.toList)) = decide (x.cps.toList < x'.cps.toList) := if_neg ex
    exact PySem.W.kat_no (PyProof.Rows.oneLt_str ⟨rfl, e3.symm⟩)
theorem si_sortable {a : Addr} {vs : List Value} {k : Value → Str × Int} (h0 : 0 < vs.length) (hp : ∀ v ∈ vs, IsSI s.heap v (k v).1 (k v).2) (ha : ∀ o, s.heap.get? a = some o → o.cls ≠ .type "tuple") : SortableO prog w A s a vs fun v u => lexS (k v) (k u) := by
  intro h' keep
  have hp' : ∀ v ∈ vs, IsSI h' v (k v).1 (k v).2 := fun v hm => (hp v hm).keeps fun b o e c => keep b o (fun z => by subst z; exact ha o e c) e
  obtain ⟨fs, h1, h2, h3⟩ := firsts_si fun v hm => ⟨_, _, hp' v hm⟩
  refine ⟨tuples' true, fun Q E hq => ?_, si_cmp hp'⟩
  refine PySem.W.kat_kind (T := .type "str") h1 (by omega) (fun f hm => ?_) (by rfl) ?_
  · obtain ⟨x, t, rfl⟩ := h3 f hm
    exact PySem.W.Looks.now
  · have e : (Value.type "str" != Value.type "tuple") = true := by first | decide +kernel | rfl | decide
    rw [e]
    exact hq
end
end UPS
namespace UP
open PySem PySem.Spec PyProof.Rows L2 L2.DX
abbrev entK (e : Str × Int) : L2.Key × V := (Sum.inr e.1, V.int e.2)
def rItemsK : V → List V → Hp → VK → Prop := fun x xs H Q => ∃ (a : Addr) (kvs : List (L2.Key × V)), x = .ref a ∧ xs = [] ∧ H a = some (.dK kvs) ∧ ∀ p, H p = none → Q (.ref p) (upd H p (itemsO p a))
def rSortKI : List V → Hp → VK → Prop := fun vs H Q => ∃ (p a : Addr) (ks : List Run), vs = [.ref p] ∧ H p = some (itemsO p a) ∧ H a = some (.dK (ks.map entK)) ∧
  ∀ H' l out, Same H H' → H l = none → Runs H' l out → out.Perm ks → out.Pairwise (fun x y => UPS.lexS y x = false) → Q (.ref l) H'
section
variable {X : Cx}
theorem mt_itemsK : MtR X "dict.items" rItemsK := by
  intro pins s σ H x xs v us Q I rx rxs h
  obtain ⟨a, kvs, rfl, rfl, ha, q⟩ := h
  cases rx
  cases rxs
  obtain ⟨z, hd, vs, rel, dd⟩ := dk_of I.hok ha
  obtain ⟨es, ep, hr, _⟩ := dd.raw
  refine DT.callItems (es := es) (ep := ep) hd hr ?_
  have hf : H s.heap.objs.size = none := I.hok.fresh (Nat.le_refl _)
  exact ⟨.ref s.heap.objs.size, upd H s.heap.objs.size (itemsO s.heap.objs.size a), I.laid (t' := s.toks) (fun b u e => Heap.get?_push_of_some _ e) (Nat.le_refl _) (itemsO_ok (Heap.get?_push_size _ rfl)), rfl, q _ hf⟩
theorem kV_str {k : Str} {P : Program} {w : World} {u : Value} (h : (mixKind P w).is (Sum.inr k) u = true) : ∃ t, u = .str k t := Value.isStrOf_shape h
theorem paired_of {α β : Type} {F : α → β → Prop} : ∀ (l : List α) (f : α → β), (∀ a ∈ l, F a (f a)) → Paired F l (l.map f)
  | [], _, _ => .nil
  | a :: t, f, h => .cons (h a (List.mem_cons_self ..)) (paired_of t f fun b hb => h b (List.mem_cons_of_mem _ hb))
theorem paired_map {α α' β β' : Type} {F : α' → β' → Prop} (f : α → α') (g : β → β') : ∀ {l : List α} {m : List β}, Paired (fun a b => F (f a) (g b)) l m → Paired F (l.map f) (m.map g)
  | _, _, .nil => .nil
  | _, _, .cons h t => .cons h (paired_map f g t)
theorem cr_sortedKI (hc : X.calm = true) : CallR X (.builtin "sorted") rSortKI := by
  intro pins s σ H xs us Q I r h
  obtain ⟨p, a, ks, rfl, hp, ha, q⟩ := h
  obtain rfl := Vals.ref1 r
  have view : s.heap.IsItemsView p a := (show ObjOk X.prog X.w H s.heap p (itemsO p a) from I.hok p _ hp).1
  obtain ⟨z, hd, vs, rel, dd⟩ := dk_of I.hok ha
  obtain ⟨es, ep, hr, hsz, hget⟩ := dd.raw
  have l1 : (ks.map entK).length = vs.length := rel.length
  rw [List.length_map] at l1 z
  have hh : X.A.handled = none := I.ok.hd hc
  refine DT.sortedI (es := es) (ep := ep) hh view hr (by omega) fun h' tk as hk hlt hl hG => ?_
  have lak : as.length = ks.length := by omega
  have nd : as.Nodup := List.Pairwise.imp (fun h => Nat.ne_of_lt h) hG.rise
  -- the pairs that were made
  have pr : ∀ (j : Nat) (b : Addr), as[j]? = some b → ∃ (e : Run) (t u : Tok), ks[j]? = some e ∧ h'.get? b = some { cls := .type "tuple", data := .seq #[Value.str e.1 t, Value.int e.2 u] } := by
    intro j b hj
    obtain ⟨en, he, hg⟩ := hG.pairs j b hj
    have hjs : j < es.size := (Array.getElem?_eq_some_iff.mp he).1
    have hjk : j < ks.length := by omega
    have een : es[j] = en := (Array.getElem?_eq_some_iff.mp he).2
    have hjv : j < vs.length := by omega
    obtain ⟨y, ey, r1, r2⟩ := pget rel (List.getElem?_eq_getElem hjv)
    rw [List.getElem?_map, List.getElem?_eq_getElem hjk] at ey
    have ey : entK ks[j] = y := Option.some.inj ey
    have hv : vs[j]? = some ((Sum.inr (ks[j]).1 : L2.Key), (vs[j]).2) := by
      rw [List.getElem?_eq_getElem hjv]
      congr 1
      refine Prod.ext ?_ rfl
      rw [← r1, ← ey]
    obtain ⟨g1, g2⟩ := hget j hjs _ _ hv
    obtain ⟨t, et⟩ := kV_str g1
    rw [← ey] at r2
    obtain ⟨u, eu⟩ := (show ∃ u, (vs[j]).2 = Value.int (ks[j]).2 u from r2)
    refine ⟨ks[j], t, u, List.getElem?_eq_getElem hjk, ?_⟩
    rw [hg, ← een, et, g2, eu]
  have hob : (h'.push { cls := .type "list", data := .seq (as.map Value.ref).toArray }).get? h'.objs.size = some (seqObj "list" (as.map Value.ref).toArray 0) := Heap.get?_push_size _ rfl
  have kb : ∀ b o, s.heap.get? b = some o → (h'.push { cls := .type "list", data := .seq (as.map Value.ref).toArray }).get? b = some o := fun b o e => Heap.get?_push_of_some _ (hk b o e)
  have ne0 : ∀ b o, h'.get? b = some o → b ≠ h'.objs.size := fun b o e => Nat.ne_of_lt (Heap.lt_size e)
  generalize hh2 : h'.push { cls := .type "list", data := .seq (as.map Value.ref).toArray } = h2 at hob kb ⊢
  have ka : ∀ b o, h'.get? b = some o → h2.get? b = some o := fun b o e => by rw [← hh2]; exact Heap.get?_push_of_some _ e
  -- what stands for what
  obtain ⟨kf, hkf⟩ : ∃ kf : Value → Str × Int, ∀ (j : Nat) (b : Addr), as[j]? = some b → ks[j]? = some (kf (.ref b)) := by
    refine ⟨fun v => match v with | .ref b => (ks[as.idxOf b]?).getD ("", 0) | _ => ("", 0), fun j b hj => ?_⟩
    obtain ⟨hjl, ej⟩ := List.getElem?_eq_some_iff.mp hj
    have ei : as.idxOf b = j := by
      rw [← ej]
      exact List.Nodup.idxOf_getElem nd j hjl
    show ks[j]? = some ((ks[as.idxOf b]?).getD ("", 0))
    rw [ei, List.getElem?_eq_getElem (by omega)]
    rfl
  have pin : ∀ v ∈ as.map Value.ref, UPS.IsSI h2 v (kf v).1 (kf v).2 := by
    intro v hv'
    obtain ⟨b, hb, rfl⟩ := List.mem_map.mp hv'
    obtain ⟨j, hj⟩ := List.mem_iff_getElem?.mp hb
    obtain ⟨e, t, u, he, hg⟩ := pr j b hj
    have ek := hkf j b hj
    rw [he] at ek
    have ek := Option.some.inj ek
    rw [← ek]
    exact ⟨b, _, t, u, 0, rfl, ka _ _ hg, rfl, rfl⟩
  refine wpAny_call_entry PyProof.Rows.slot_list_sort ⟨_, hob, rfl⟩ PyProof.Rows.entry_list_sort
    (SrtO.list_sort_ord (s := { s with heap := h2, toks := tk }) (ltv := fun v u => UPS.lexS (kf v) (kf u)) ⟨fun x y => UPS.swoS.asym _ _, fun x y z => UPS.swoS.tr _ _ _⟩ hob (by rw [List.length_map]; omega) (fun h2' => ?_) fun out hs hb => ⟨_, rfl, ?_⟩) (PyProof.Rows.args_list_sort _)
  · refine UPS.si_sortable (s := { s with heap := h2, toks := tk }) (by omega) pin fun o e => ?_
    have e' : some o = some (seqObj "list" (as.map Value.ref).toArray 0) := e.symm.trans hob
    cases e'
    intro c
    exact absurd (Value.type.inj c) (by decide)
  · show EP X pins σ Q (.ref h'.objs.size) { s with heap := sortedHeap h2 h'.objs.size (as.map Value.ref) out.toArray, toks := tk }
    obtain ⟨zs, pz, ez⟩ : ∃ zs : List Addr, zs.Perm as ∧ zs.map Value.ref = out := by
      have := hb.perm
      obtain ⟨zs, p1, p2⟩ := perm_lift Value.ref this as rfl
      exact ⟨zs, p1, p2⟩
    have kF : ∀ b o, b ≠ h'.objs.size → h2.get? b = some o → (sortedHeap h2 h'.objs.size (as.map Value.ref) out.toArray).get? b = some o := fun b o hb e => (PyProof.Rows.sortedHeap_old hb (Heap.lt_size e)).trans e
    have kS : ∀ b o, s.heap.get? b = some o → (sortedHeap h2 h'.objs.size (as.map Value.ref) out.toArray).get? b = some o := fun b o e => kF b o (ne0 _ _ (hk b o e)) (kb b o e)
    obtain ⟨eF, heF⟩ := PyProof.Rows.sortedHeap_at (vs := as.map Value.ref) (out := out.toArray) hob
    have I1 : Inv X pins σ H { s with heap := sortedHeap h2 h'.objs.size (as.map Value.ref) out.toArray, toks := tk } := I.kept (t' := tk) kS
    have hn0 : H h'.objs.size = none := I.hok.fresh (Nat.le_of_lt hlt)
    have lz : zs.length = ks.length := by rw [pz.length_eq, lak]
    have I2 : Inv X pins σ (upd H h'.objs.size (.lst (zs.map V.ref))) { s with heap := sortedHeap h2 h'.objs.size (as.map Value.ref) out.toArray, toks := tk } :=
      I1.take (h' := sortedHeap h2 h'.objs.size (as.map Value.ref) out.toArray) (t' := tk) (fun b ob _ e => e) (I.fpOk (Nat.le_of_lt hlt) hn0) ⟨by rw [List.length_map, lz]; exact z, out, eF, by rw [← ez]; exact vals_maps (fun z : Addr => V.ref z) (fun z => Value.ref z) zs fun _ _ => rfl, heF⟩
    obtain ⟨H2, I3, g, qt⟩ := takeT (P := fun b vs => vs = [.str (kf (.ref b)).1, .int (kf (.ref b)).2]) I as _ I2 nd fun b hb => by
      obtain ⟨j, hj⟩ := List.mem_iff_getElem?.mp hb
      obtain ⟨e, t, u, he, hg⟩ := pr j b hj
      have ek := hkf j b hj
      rw [he] at ek
      have ek := Option.some.inj ek
      have hbl : s.heap.objs.size ≤ b := Nat.le_of_lt (hG.above b hb)
      refine ⟨hbl, ?_, [.str e.1, .int e.2], by rw [← ek], fun H3 => ⟨(by rw [sizeLine_eq]; show 2 ≤ 16777216; omega), [Value.str e.1 t, Value.int e.2 u], .cons ⟨t, rfl⟩ (.cons ⟨u, rfl⟩ .nil), ⟨_, kF _ _ (ne0 _ _ hg) (ka _ _ hg), rfl, 0, rfl⟩⟩⟩
      rw [upd_ne (ne0 _ _ hg)]
      exact I.hok.fresh hbl
    have gr : Same H H2 := fun b o e => g b o (by rw [upd_ne (ne_of_none e hn0)]; exact e)
    refine ⟨.ref h'.objs.size, H2, I3, rfl, q H2 h'.objs.size (zs.map fun b => kf (.ref b)) gr hn0 ⟨zs.map V.ref, g _ _ upd_same, ?_⟩ ?_ ?_⟩
    · refine paired_map V.ref (fun b => kf (.ref b)) ?_
      have := paired_of (F := fun (b : Addr) (c : Addr) => RunV H2 (V.ref b) (kf (.ref c))) zs id fun b hb => by
        obtain ⟨vs', e1, e2⟩ := qt b (pz.mem_iff.mp hb)
        rw [e1] at e2
        exact ⟨b, rfl, e2⟩
      rw [List.map_id] at this
      exact this
    · have e1 : (as.map fun b => kf (.ref b)) = ks := by
        refine List.ext_getElem? fun j => ?_
        rw [List.getElem?_map]
        cases hj : as[j]? with
        | none =>
          have : as.length ≤ j := List.getElem?_eq_none_iff.mp hj
          rw [List.getElem?_eq_none_iff.mpr (by omega)]
          rfl
        | some b =>
          rw [hkf j b hj]
          rfl
      rw [← e1]
      exact pz.map _
    · have hs : out.Pairwise (fun v u => UPS.lexS (kf u) (kf v) = false) := hs
      rw [← ez, List.pairwise_map] at hs
      rw [List.pairwise_map]
      exact hs
/-! ### sorted(list of runs) -/
def kyR (H : Hp) : V → Run
  | .ref t => match H t with
    | some (.tup [.str a, .int b]) => (a, b)
    | _ => ("", 0)
  | _ => ("", 0)
theorem kyR_of {H : Hp} {v : V} {r : Run} (h : RunV H v r) : kyR H v = r := by
  obtain ⟨t, rfl, ht⟩ := h
  show (match H t with | some (.tup [.str a, .int b]) => (a, b) | _ => (("" : Str), (0 : Int))) = r
  rw [ht]
def rSortR : List V → Hp → VK → Prop := fun vs H Q => ∃ (a : Addr) (ks : List Run), vs = [.ref a] ∧ Runs H a ks ∧
  ∀ H' l out, Same H H' → H l = none → Runs H' l out → out.Perm ks → out.Pairwise (fun x y => UPS.lexS y x = false) → Q (.ref l) H'
theorem kyR_map {H : Hp} : ∀ {xs : List V} {ks : List Run}, Paired (RunV H) xs ks → xs.map (kyR H) = ks
  | _, _, .nil => rfl
  | _, _, .cons h t => by rw [List.map_cons, kyR_of h, kyR_map t]
theorem paired_ky {H : Hp} : ∀ (xs : List V), (∀ x ∈ xs, ∃ r, RunV H x r) → Paired (RunV H) xs (xs.map (kyR H))
  | [], _ => .nil
  | x :: t, h => by
    obtain ⟨r, hr⟩ := h x (List.mem_cons_self ..)
    refine .cons ?_ (paired_ky t fun y hy => h y (List.mem_cons_of_mem _ hy))
    rw [kyR_of hr]
    exact hr
theorem paired_mem {α β : Type} {F : α → β → Prop} : ∀ {xs : List α} {ys : List β}, Paired F xs ys → ∀ x ∈ xs, ∃ y, F x y
  | _, _, .cons h t, x, hx => by
    rcases List.mem_cons.mp hx with e | hx
    · rw [e]
      exact ⟨_, h⟩
    · exact paired_mem t x hx
theorem cr_sortedR : CallR X (.builtin "sorted") rSortR := by
  intro pins s σ H vs us Q I r h
  obtain ⟨a, ks, rfl, ⟨xs, hx, hp⟩, q⟩ := h
  obtain ⟨its, rv, hl, hz⟩ := I.list (SqL.of hx)
  obtain rfl := Vals.ref1 r
  obtain ⟨e1, e2⟩ := refs_back rv fun x m => by
    obtain ⟨y, t, e, _⟩ := paired_mem hp x m
    exact ⟨t, e⟩
  refine SrtO.sorted_ord (ltv := fun v u => UPS.lexS (kyR H (backV v)) (kyR H (backV u))) ⟨fun x y => UPS.swoS.asym _ _, fun x y z => UPS.swoS.tr _ _ _⟩ hl.isList (by rw [← rv.length]; exact hz) (fun h2 h₁ a' ha kk => ?_) fun out hs hb => ?_
  · refine UPS.si_sortable (s := { s with heap := h₁ }) (k := fun u => kyR H (backV u)) (by omega) (fun v hv => ?_) fun o e => ?_
    · obtain ⟨t, rfl⟩ := e2 v hv
      have hm : V.ref t ∈ xs := by rw [e1]; exact List.mem_map.mpr ⟨_, hv, rfl⟩
      obtain ⟨y, hy⟩ := paired_mem hp _ hm
      rw [show kyR H (backV (.ref t)) = y from kyR_of hy]
      obtain ⟨t', e, ht⟩ := hy
      cases e
      obtain ⟨_, its2, r2, o, ho, hc, n, hd⟩ := I.hok _ _ ht
      obtain ⟨u1, u2, rfl, ri, rj⟩ := vals2 r2
      obtain ⟨t1, rfl⟩ := ri
      obtain ⟨t2, rfl⟩ := rj
      exact ⟨t, o, t1, t2, n, rfl, (kk _ _ ho).2, hc, hd⟩
    · have e' : some o = some (seqObj "list" its.toArray 0) := e.symm.trans ha
      cases e'
      intro c
      exact absurd (Value.type.inj c) (by decide)
  · have h3 : ∀ u ∈ out, ∃ a, u = Value.ref a := fun u hu => e2 u (hb.perm.mem_iff.mp hu)
    obtain ⟨n, hn⟩ := sortedAll_at s.heap its out.toArray
    have pm : (out.map backV).Perm xs := by
      rw [e1]
      exact hb.perm.map backV
    have hd : s.heap.objs.size ≤ s.heap.objs.size + 1 := Nat.le_succ _
    have hn0 := I.hok.fresh hd
    refine ⟨.ref _, upd H (s.heap.objs.size + 1) (.lst (out.map backV)), I.laid (t' := s.toks) (fun b o e => sortedAll_old e) hd ⟨?_, out, n, vals_back h3, hn⟩, rfl, q _ _ ((out.map backV).map (kyR H)) (same_upd hn0) hn0 ⟨_, upd_same, ?_⟩ ?_ ?_⟩
    · rw [pm.length_eq]
      exact hz
    · exact Paired.imp (fun _ _ => RunV.same (same_upd hn0)) (paired_ky _ fun x hx => paired_mem hp x (pm.mem_iff.mp hx))
    · rw [← kyR_map hp]
      exact pm.map _
    · rw [List.pairwise_map, List.pairwise_map]
      exact hs
end
end UP

set_option Elab.async false
set_option linter.all false
set_option maxRecDepth 100000
set_option maxHeartbeats 4000000
set_option pp.maxSteps 500
/-! ### dicts whose keys are None and tuples, at the machine's level -/
namespace UP.Dx
open PySem
open Sem (wp)
/-- the value v is the key k, and is None or a tuple -/
structure KeyAt (h : Heap) (k : NestedKey) (v : Value) : Prop where
  tell : NestedIs h k v
  low : k.depth ≤ 8
  form : v = .none ∨ ∃ a, v = .ref a
theorem KeyAt.one {h : Heap} {v : Value} {x y : NestedKey} (p : KeyAt h x v) (q : KeyAt h y v) : x = y := NestedIs.inj x y v p.tell q.tell
/-- the entries es have the keys ks -/
structure Ents (w : World) (h : Heap) (es : Array DictEntry) (ks : List NestedKey) : Prop where
  len : ks.length = es.size
  ent : ∀ (i : Nat) (k : NestedKey), ks[i]? = some k → ∃ e, es[i]? = some e ∧ e.hash = k.hash w ∧ KeyAt h k e.key
  once : ks.Nodup
def place (ks : List NestedKey) (k : NestedKey) : Option Nat := ks.findIdx? fun x => decide (x = k)
theorem place_at {ks : List NestedKey} (nd : ks.Nodup) {i : Nat} {k : NestedKey} (h : ks[i]? = some k) : place ks k = some i := by
  obtain ⟨l, e⟩ := List.getElem?_eq_some_iff.mp h
  refine List.findIdx?_eq_some_iff_getElem.mpr ⟨l, decide_eq_true e, fun j hj z => ?_⟩
  have ej : ks[j]'(Nat.lt_trans hj l) = ks[i] := (of_decide_eq_true z).trans e.symm
  exact absurd ((List.getElem_inj nd).mp ej) (Nat.ne_of_lt hj)
theorem place_no {ks : List NestedKey} {k : NestedKey} (h : ∀ i : Nat, ks[i]? ≠ some k) : place ks k = none := by
  refine List.findIdx?_eq_none_iff.mpr fun x hx => decide_eq_false fun e => ?_
  obtain ⟨i, hi⟩ := List.getElem?_of_mem hx
  exact h i (by rw [hi, e])
theorem place_ok {ks : List NestedKey} {i : Nat} {k : NestedKey} (h : place ks k = some i) : ks[i]? = some k := by
  obtain ⟨l, e, _⟩ := List.findIdx?_eq_some_iff_getElem.mp h
  rw [List.getElem?_eq_getElem l, of_decide_eq_true e]
theorem place_none {ks : List NestedKey} {k : NestedKey} (h : place ks k = none) : k ∉ ks := fun hm => by
  have := List.findIdx?_eq_none_iff.mp h k hm
  rw [decide_eq_true rfl] at this
  cases this
section
variable {prog : Program} {w : World} {A : Around} {E : Value → Shared → Prop} {s : Shared}
theorem hash_of {k : NestedKey} {v : Value} {Q : Int → Shared → Prop} (hu : A.units + 8 < cLine) (hk : KeyAt s.heap k v) (q : Q (k.hash w) { s with toks := s.toks + k.draws }) : wpAny (model prog w) A (pyHash v) Q E s :=
  pyHash_key k v A s Q hk.tell (Nat.lt_of_le_of_lt (Nat.add_le_add_left hk.low _) hu) q
theorem same_of {x y : NestedKey} {a b : Value} {Q : Bool → Shared → Prop} (hu : A.units + 8 < cLine) (hx : KeyAt s.heap x a) (hy : KeyAt s.heap y b) (q : Q (decide (x = y)) s) : wpAny (model prog w) A (eqBool a b) Q E s := by
  refine eqAt_key x y A s a b hx.tell hy.tell (Nat.lt_of_le_of_lt (Nat.add_le_add_left (Nat.le_trans (Nat.min_le_left _ _) hx.low) _) hu) prog w E Q ?_
  rw [← NestedKey.decide_eq]
  exact q
theorem still_of {k : NestedKey} {v : Value} {Q : Bool → Shared → Prop} (hk : KeyAt s.heap k v) (q : Q true s) : wpAny (model prog w) A (eqIsQuiet 8 v) Q E s := quiet_key k v 8 s hk.tell hk.low A E Q q
/-- no key of these tells that it is compared -/
theorem mute {v : Value} {k : NestedKey} {l : List Value} {Q : Bool → Shared → Prop} (hk : KeyAt s.heap k v) (hl : ∀ u ∈ l, ∃ y, KeyAt s.heap y u) (q : Q false s) : wpAny (model prog w) A (tableMayTell v l) Q E s := by
  unfold tableMayTell
  split
  · exact wpAny_pure q
  refine wpAny_bind (still_of hk ?_)
  simp only [Bool.not_true, Bool.false_eq_true, if_false]
  refine wpAny_bind (wpAny_forIn_list _ (fun todo r t => (t = s ∧ r = (none, ())) ∧ ∀ u ∈ todo, ∃ y, KeyAt s.heap y u) _ ?_ ?_ _ _ ⟨⟨rfl, rfl⟩, hl⟩)
  · rintro u todo r t ⟨⟨rfl, rfl⟩, ok⟩
    obtain ⟨y, hy⟩ := ok u (List.mem_cons_self ..)
    refine wpAny_bind (still_of hy ?_)
    simp only [Bool.not_true, Bool.false_eq_true, if_false]
    exact wpAny_pure ⟨⟨rfl, rfl⟩, fun z hz => ok z (List.mem_cons_of_mem _ hz)⟩
  · rintro r t ⟨⟨rfl, rfl⟩, _⟩
    exact wpAny_pure q
variable {d : Addr} {v : Value} {o : Obj} {es : Array DictEntry} {ep : Nat} {ks : List NestedKey} {k : NestedKey}
theorem Ents.key {i : Nat} {e : DictEntry} (hE : Ents w s.heap es ks) (hi : es[i]? = some e) : ∃ y, ks[i]? = some y ∧ e.hash = y.hash w ∧ KeyAt s.heap y e.key := by
  have l : i < ks.length := by rw [hE.len]; exact (Array.getElem?_eq_some_iff.mp hi).1
  obtain ⟨e', h1, h2, h3⟩ := hE.ent i _ (List.getElem?_eq_getElem l)
  rw [hi] at h1
  cases h1
  exact ⟨_, List.getElem?_eq_getElem l, h2, h3⟩
theorem in_places (hE : Ents w s.heap es ks) {i : Nat} (h : ks[i]? = some k) : i ∈ placesWithHash es.size (fun i => es[i]?.map (·.hash)) (k.hash w) := by
  obtain ⟨e, h1, h2, _⟩ := hE.ent i k h
  unfold placesWithHash
  refine List.mem_filter.mpr ⟨List.mem_range.mpr (Array.getElem?_eq_some_iff.mp h1).1, ?_⟩
  show (es[i]?.map (·.hash) == some (NestedKey.hash w k)) = true
  rw [h1, Option.map_some, h2]
  exact beq_self_eq_true _
theorem places_lt {i : Nat} {n : Nat} {f : Nat → Option Int} {x : Int} (h : i ∈ placesWithHash n f x) : i < n ∧ f i = some x := by
  unfold placesWithHash at h
  obtain ⟨h1, h2⟩ := List.mem_filter.mp h
  exact ⟨List.mem_range.mp h1, eq_of_beq h2⟩
/-- what is known of the places gone through: none is k's, or p is -/
def Seen (ks : List NestedKey) (k : NestedKey) (gone : List Nat) : Option Nat → Prop
  | none => ∀ p ∈ gone, ks[p]? ≠ some k
  | some p => p ∈ gone ∧ ks[p]? = some k
theorem Seen.more {gone : List Nat} {hit : Option Nat} {x : Nat} (h : Seen ks k gone hit) (n : ks[x]? ≠ some k) : Seen ks k (gone ++ [x]) hit := by
  cases hit with
  | some p => exact ⟨List.mem_append_left _ h.1, h.2⟩
  | none =>
    intro p hp
    rcases List.mem_append.mp hp with z | z
    · exact h p z
    · rw [List.mem_singleton.mp z]
      exact n
theorem Seen.last (hE : Ents w s.heap es ks) {hit : Option Nat} (h : Seen ks k (placesWithHash es.size (fun i => es[i]?.map (·.hash)) (k.hash w)) hit) : place ks k = hit := by
  cases hit with
  | some p => exact place_at hE.once h.2
  | none => exact place_no fun i hi => h i (in_places hE hi) hi
theorem plain_find {Q : Option Nat → Shared → Prop} (hu : A.units + 8 < cLine) (hk : KeyAt s.heap k v) (ho : s.heap.get? d = some o) (hd : o.data = .dict es ep) (hE : Ents w s.heap es ks) (q : Q (place ks k) s) :
    wpAny (model prog w) A (dictWalkPlain d v (k.hash w) es (placesWithHash es.size (fun i => es[i]?.map (·.hash)) (k.hash w))) Q E s := by
  have lt : ∀ p ∈ placesWithHash es.size (fun i => es[i]?.map (·.hash)) (k.hash w), p < es.size := fun p hp => (places_lt hp).1
  have fin := fun hit => Seen.last (k := k) (hit := hit) hE
  unfold dictWalkPlain
  generalize placesWithHash es.size (fun i => es[i]?.map (·.hash)) (k.hash w) = ps at *
  refine wpAny_bind (wpAny_forIn_list _ (fun todo b t => (t = s ∧ b = (none, ())) ∧ ∃ gone, gone ++ todo = ps ∧ Seen ks k gone none) _ ?_ ?_ _ _ ⟨⟨rfl, rfl⟩, [], rfl, fun p hp => by cases hp⟩)
  · rintro x todo b t ⟨⟨rfl, rfl⟩, gone, eg, hs⟩
    have xl := lt x (by rw [← eg]; exact List.mem_append_right _ (List.mem_cons_self ..))
    obtain ⟨y, hy, h1, h2⟩ := hE.key (Array.getElem?_eq_getElem xl)
    have nxt : y ≠ k → ∃ gone, gone ++ todo = ps ∧ Seen ks k gone none := fun n => ⟨gone ++ [x], by rw [List.append_assoc]; exact eg, hs.more fun z => n (by rw [hy] at z; exact Option.some.inj z)⟩
    simp only [Array.getElem?_eq_getElem xl]
    split
    · refine wpAny_bind (wpAny_dictEpoch ho hd (wpAny_bind (same_of hu h2 hk (wpAny_bind (wpAny_dictEpoch ho hd ?_)))))
      simp only [bne_self_eq_false, Bool.false_eq_true, if_false]
      by_cases e : y = k
      · rw [decide_eq_true e]
        rw [place_at hE.once (by rw [hy, e])] at q
        exact wpAny_bind (wpAny_rule (wpAny_pure (wpAny_pure q)))
      · rw [decide_eq_false e]
        exact wpAny_bind (wpAny_rule (wpAny_pure ⟨⟨rfl, rfl⟩, nxt e⟩))
    · next n => exact wpAny_pure ⟨⟨rfl, rfl⟩, nxt fun e => n (by rw [h1, e]; exact beq_self_eq_true _)⟩
  · rintro b t ⟨⟨rfl, rfl⟩, gone, eg, hs⟩
    rw [List.append_nil] at eg
    subst eg
    refine wpAny_pure ?_
    rw [fin none hs] at q
    exact q
theorem find_k {Q : Option Nat → Shared → Prop} (hu : A.units + 8 < cLine) (hk : KeyAt s.heap k v) (ho : s.heap.get? d = some o) (hd : o.data = .dict es ep) (hE : Ents w s.heap es ks) (q : Q (place ks k) s) :
    wpAny (model prog w) A (dictFind d v (k.hash w)) Q E s := by
  have pf := plain_find (E := E) (prog := prog) hu hk ho hd hE q
  have lt : ∀ p ∈ placesWithHash es.size (fun i => es[i]?.map (·.hash)) (k.hash w), p < es.size := fun p hp => (places_lt hp).1
  have fin := fun hit => Seen.last (k := k) (hit := hit) hE
  have nd : (placesWithHash es.size (fun i => es[i]?.map (·.hash)) (k.hash w)).Nodup := List.nodup_range.filter _
  have st : ∀ u ∈ (placesWithHash es.size (fun i => es[i]?.map (·.hash)) (k.hash w)).filterMap (fun i => es[i]?.map (·.key)), ∃ y, KeyAt s.heap y u := fun u hu' => by
    obtain ⟨i, hi, e1⟩ := List.mem_filterMap.mp hu'
    have il := lt i hi
    rw [Array.getElem?_eq_getElem il, Option.map_some] at e1
    cases e1
    obtain ⟨y, _, _, h2⟩ := hE.key (Array.getElem?_eq_getElem il)
    exact ⟨y, h2⟩
  unfold dictFind
  try with_reducible refine wpAny_holding ?_
  refine wpAny_bind (wpAny_dictEntries ho hd ?_)
  generalize hps : placesWithHash es.size (fun i => es[i]?.map (·.hash)) (k.hash w) = ps at *
  rcases hk.form with ev | ⟨a, ev⟩
  · subst ev
    dsimp only
    by_cases c1 : (Value.none :: List.filterMap (fun i => es[i]?.map (·.key)) ps).all carriedByValue = true
    · rw [if_pos c1]
      exact pf
    rw [if_neg c1]
    by_cases c2 : (List.filterMap (fun i => es[i]?.map (·.key)) ps == [Value.none]) = true
    · rw [if_pos c2]
      refine wpAny_bind (wpAny_pure ?_)
      rw [if_neg (show ¬ (false && _) = true by rw [Bool.false_and]; exact Bool.false_ne_true)]
      refine wpAny_bind (wpAny_forIn_list _ (fun todo b t => t = s ∧ ∃ hit gone, b = (none, hit) ∧ gone ++ todo = ps ∧ Seen ks k gone hit) _ ?_ ?_ _ _ ⟨rfl, none, [], rfl, rfl, fun p hp => by cases hp⟩)
      · rintro x todo b t ⟨rfl, hit, gone, rfl, eg, hs⟩
        have xl := lt x (by rw [← eg]; exact List.mem_append_right _ (List.mem_cons_self ..))
        have eg2 : (gone ++ [x]) ++ todo = ps := by rw [List.append_assoc]; exact eg
        obtain ⟨y, hy, h1, h2⟩ := hE.key (Array.getElem?_eq_getElem xl)
        simp only [Array.getElem?_eq_getElem xl]
        split
        · refine wpAny_bind (wpAny_dictEpoch ho hd (wpAny_bind (same_of hu h2 hk (wpAny_bind (wpAny_dictEpoch ho hd ?_)))))
          rw [if_neg (show ¬ (ep != ep) = true by rw [bne_self_eq_false]; exact Bool.false_ne_true)]
          by_cases e : y = k
          · have hx : ks[x]? = some k := by rw [hy, e]
            rw [decide_eq_true e]
            cases hit with
            | some p =>
              have px := place_at hE.once hs.2
              rw [place_at hE.once hx] at px
              cases px
              rw [← eg, List.nodup_append] at nd
              exact absurd rfl (nd.2.2 _ hs.1 _ (List.mem_cons_self ..))
            | none =>
              simp only [if_true, Option.isSome_none, Bool.false_eq_true, if_false]
              refine wpAny_bind (wpAny_rule ?_)
              split
              · rw [place_at hE.once hx] at q
                exact wpAny_pure (wpAny_pure q)
              · exact wpAny_pure ⟨rfl, some x, gone ++ [x], rfl, eg2, List.mem_append_right _ (List.mem_cons_self ..), hx⟩
          · rw [decide_eq_false e]
            simp only [Bool.false_eq_true, if_false]
            exact wpAny_bind (wpAny_rule (wpAny_pure ⟨rfl, hit, gone ++ [x], rfl, eg2, hs.more fun z => e (by rw [hy] at z; exact Option.some.inj z)⟩))
        · next n => exact wpAny_pure ⟨rfl, hit, gone ++ [x], rfl, eg2, hs.more fun z => n (by rw [hy] at z; rw [h1, Option.some.inj z]; exact beq_self_eq_true _)⟩
      · rintro b t ⟨rfl, hit, gone, rfl, eg, hs⟩
        rw [List.append_nil] at eg
        subst eg
        rw [fin hit hs] at q
        exact wpAny_pure q
    · rw [if_neg c2]
      refine wpAny_bind (mute hk st ?_)
      rw [if_neg (show ¬ (false && _) = true by rw [Bool.false_and]; exact Bool.false_ne_true)]
      refine wpAny_bind (wpAny_forIn_list _ (fun todo b t => t = s ∧ ∃ hit gone, b = (none, hit) ∧ gone ++ todo = ps ∧ Seen ks k gone hit) _ ?_ ?_ _ _ ⟨rfl, none, [], rfl, rfl, fun p hp => by cases hp⟩)
      · rintro x todo b t ⟨rfl, hit, gone, rfl, eg, hs⟩
        have xl := lt x (by rw [← eg]; exact List.mem_append_right _ (List.mem_cons_self ..))
        have eg2 : (gone ++ [x]) ++ todo = ps := by rw [List.append_assoc]; exact eg
        obtain ⟨y, hy, h1, h2⟩ := hE.key (Array.getElem?_eq_getElem xl)
        simp only [Array.getElem?_eq_getElem xl]
        split
        · refine wpAny_bind (wpAny_dictEpoch ho hd (wpAny_bind (same_of hu h2 hk (wpAny_bind (wpAny_dictEpoch ho hd ?_)))))
          rw [if_neg (show ¬ (ep != ep) = true by rw [bne_self_eq_false]; exact Bool.false_ne_true)]
          by_cases e : y = k
          · have hx : ks[x]? = some k := by rw [hy, e]
            rw [decide_eq_true e]
            cases hit with
            | some p =>
              have px := place_at hE.once hs.2
              rw [place_at hE.once hx] at px
              cases px
              rw [← eg, List.nodup_append] at nd
              exact absurd rfl (nd.2.2 _ hs.1 _ (List.mem_cons_self ..))
            | none =>
              simp only [if_true, Option.isSome_none, Bool.false_eq_true, if_false]
              refine wpAny_bind (wpAny_rule ?_)
              split
              · rw [place_at hE.once hx] at q
                exact wpAny_pure (wpAny_pure q)
              · exact wpAny_pure ⟨rfl, some x, gone ++ [x], rfl, eg2, List.mem_append_right _ (List.mem_cons_self ..), hx⟩
          · rw [decide_eq_false e]
            simp only [Bool.false_eq_true, if_false]
            exact wpAny_bind (wpAny_rule (wpAny_pure ⟨rfl, hit, gone ++ [x], rfl, eg2, hs.more fun z => e (by rw [hy] at z; exact Option.some.inj z)⟩))
        · next n => exact wpAny_pure ⟨rfl, hit, gone ++ [x], rfl, eg2, hs.more fun z => n (by rw [hy] at z; rw [h1, Option.some.inj z]; exact beq_self_eq_true _)⟩
      · rintro b t ⟨rfl, hit, gone, rfl, eg, hs⟩
        rw [List.append_nil] at eg
        subst eg
        rw [fin hit hs] at q
        exact wpAny_pure q
  · subst ev
    dsimp only
    have no : ¬ (es.any fun e => e.key == Value.ref a && e.hash != k.hash w) = true := fun z => by
      obtain ⟨i, hi, z⟩ := Array.any_eq_true.mp z
      obtain ⟨y, _, h1, h2⟩ := hE.key (Array.getElem?_eq_getElem hi)
      rw [Bool.and_eq_true] at z
      rw [eq_of_beq z.1] at h2
      rw [h1, h2.one hk] at z
      simp at z
    rw [if_neg (show ¬ (Value.ref a :: List.filterMap (fun i => es[i]?.map (·.key)) ps).all carriedByValue = true by rw [List.all_cons]; exact Bool.false_ne_true), if_neg no]
    by_cases c2 : (List.filterMap (fun i => es[i]?.map (·.key)) ps == [Value.ref a]) = true
    · rw [if_pos c2]
      refine wpAny_bind (wpAny_pure ?_)
      rw [if_neg (show ¬ (false && _) = true by rw [Bool.false_and]; exact Bool.false_ne_true)]
      refine wpAny_bind (wpAny_forIn_list _ (fun todo b t => t = s ∧ ∃ hit gone, b = (none, hit) ∧ gone ++ todo = ps ∧ Seen ks k gone hit) _ ?_ ?_ _ _ ⟨rfl, none, [], rfl, rfl, fun p hp => by cases hp⟩)
      · rintro x todo b t ⟨rfl, hit, gone, rfl, eg, hs⟩
        have xl := lt x (by rw [← eg]; exact List.mem_append_right _ (List.mem_cons_self ..))
        have eg2 : (gone ++ [x]) ++ todo = ps := by rw [List.append_assoc]; exact eg
        obtain ⟨y, hy, h1, h2⟩ := hE.key (Array.getElem?_eq_getElem xl)
        simp only [Array.getElem?_eq_getElem xl]
        split
        · refine wpAny_bind (wpAny_dictEpoch ho hd (wpAny_bind (same_of hu h2 hk (wpAny_bind (wpAny_dictEpoch ho hd ?_)))))
          rw [if_neg (show ¬ (ep != ep) = true by rw [bne_self_eq_false]; exact Bool.false_ne_true)]
          by_cases e : y = k
          · have hx : ks[x]? = some k := by rw [hy, e]
            rw [decide_eq_true e]
            cases hit with
            | some p =>
              have px := place_at hE.once hs.2
              rw [place_at hE.once hx] at px
              cases px
              rw [← eg, List.nodup_append] at nd
              exact absurd rfl (nd.2.2 _ hs.1 _ (List.mem_cons_self ..))
            | none =>
              simp only [if_true, Option.isSome_none, Bool.false_eq_true, if_false]
              refine wpAny_bind (wpAny_rule ?_)
              split
              · rw [place_at hE.once hx] at q
                exact wpAny_pure (wpAny_pure q)
              · exact wpAny_pure ⟨rfl, some x, gone ++ [x], rfl, eg2, List.mem_append_right _ (List.mem_cons_self ..), hx⟩
          · rw [decide_eq_false e]
            simp only [Bool.false_eq_true, if_false]
            exact wpAny_bind (wpAny_rule (wpAny_pure ⟨rfl, hit, gone ++ [x], rfl, eg2, hs.more fun z => e (by rw [hy] at z; exact Option.some.inj z)⟩))
        · next n => exact wpAny_pure ⟨rfl, hit, gone ++ [x], rfl, eg2, hs.more fun z => n (by rw [hy] at z; rw [h1, Option.some.inj z]; exact beq_self_eq_true _)⟩
      · rintro b t ⟨rfl, hit, gone, rfl, eg, hs⟩
        rw [List.append_nil] at eg
        subst eg
        rw [fin hit hs] at q
        exact wpAny_pure q
    · rw [if_neg c2]
      refine wpAny_bind (mute hk st ?_)
      rw [if_neg (show ¬ (false && _) = true by rw [Bool.false_and]; exact Bool.false_ne_true)]
      refine wpAny_bind (wpAny_forIn_list _ (fun todo b t => t = s ∧ ∃ hit gone, b = (none, hit) ∧ gone ++ todo = ps ∧ Seen ks k gone hit) _ ?_ ?_ _ _ ⟨rfl, none, [], rfl, rfl, fun p hp => by cases hp⟩)
      · rintro x todo b t ⟨rfl, hit, gone, rfl, eg, hs⟩
        have xl := lt x (by rw [← eg]; exact List.mem_append_right _ (List.mem_cons_self ..))
        have eg2 : (gone ++ [x]) ++ todo = ps := by rw [List.append_assoc]; exact eg
        obtain ⟨y, hy, h1, h2⟩ := hE.key (Array.getElem?_eq_getElem xl)
        simp only [Array.getElem?_eq_getElem xl]
        split
        · refine wpAny_bind (wpAny_dictEpoch ho hd (wpAny_bind (same_of hu h2 hk (wpAny_bind (wpAny_dictEpoch ho hd ?_)))))
          rw [if_neg (show ¬ (ep != ep) = true by rw [bne_self_eq_false]; exact Bool.false_ne_true)]
          by_cases e : y = k
          · have hx : ks[x]? = some k := by rw [hy, e]
            rw [decide_eq_true e]
            cases hit with
            | some p =>
              have px := place_at hE.once hs.2
              rw [place_at hE.once hx] at px
              cases px
              rw [← eg, List.nodup_append] at nd
              exact absurd rfl (nd.2.2 _ hs.1 _ (List.mem_cons_self ..))
            | none =>
              simp only [if_true, Option.isSome_none, Bool.false_eq_true, if_false]
              refine wpAny_bind (wpAny_rule ?_)
              split
              · rw [place_at hE.once hx] at q
                exact wpAny_pure (wpAny_pure q)
              · exact wpAny_pure ⟨rfl, some x, gone ++ [x], rfl, eg2, List.mem_append_right _ (List.mem_cons_self ..), hx⟩
          · rw [decide_eq_false e]
            simp only [Bool.false_eq_true, if_false]
            exact wpAny_bind (wpAny_rule (wpAny_pure ⟨rfl, hit, gone ++ [x], rfl, eg2, hs.more fun z => e (by rw [hy] at z; exact Option.some.inj z)⟩))
        · next n => exact wpAny_pure ⟨rfl, hit, gone ++ [x], rfl, eg2, hs.more fun z => n (by rw [hy] at z; rw [h1, Option.some.inj z]; exact beq_self_eq_true _)⟩
      · rintro b t ⟨rfl, hit, gone, rfl, eg, hs⟩
        rw [List.append_nil] at eg
        subst eg
        rw [fin hit hs] at q
        exact wpAny_pure q
/-- at d stands a dict with these entries -/
def DictE (w : World) (h : Heap) (d : Addr) (es : Array DictEntry) (ks : List NestedKey) : Prop := ∃ o ep, h.get? d = some o ∧ o.ExactDict ∧ o.data = .dict es ep ∧ Ents w h es ks
theorem DictE.isDict (D : DictE w s.heap d es ks) : s.TypeIs (.ref d) "dict" := by
  obtain ⟨o, _, h1, h2, _⟩ := D
  exact ⟨o, h1, h2.1⟩
def gotE (es : Array DictEntry) (ks : List NestedKey) (k : NestedKey) : Option Value := (place ks k).bind fun i => es[i]?.map (·.val)
theorem look {Q : Option Value → Shared → Prop} (hu : A.units + 8 < cLine) (hk : KeyAt s.heap k v) (D : DictE w s.heap d es ks) (q : Q (gotE es ks k) { s with toks := s.toks + k.draws }) : wpAny (model prog w) A (dictGet d v) Q E s := by
  obtain ⟨o, ep, ho, _, hd, hE⟩ := D
  unfold dictGet
  try with_reducible refine wpAny_holding ?_
  refine wpAny_bind (hash_of hu hk (wpAny_bind (find_k (s := { s with toks := s.toks + k.draws }) hu hk ho hd hE ?_)))
  unfold gotE at q
  cases hp : place ks k with
  | none =>
    rw [hp] at q
    exact wpAny_pure q
  | some i =>
    rw [hp] at q
    exact wpAny_bind (wpAny_dictEntries (s := { s with toks := s.toks + k.draws }) ho hd (wpAny_pure q))
theorem KeyAt.stay {h h' : Heap} {k : NestedKey} {v : Value} (hk : KeyAt h k v) (ho : h.get? d = some o) (hd : o.data = .dict es ep) (sb : Heap.SameBut d h h') : KeyAt h' k v := by
  refine ⟨NestedIs.at (fun b ob l n e1 e2 => ?_) k v hk.tell, hk.low, hk.form⟩
  have nb : b ≠ d := fun z => by
    rw [z, ho] at e1
    cases e1
    rw [hd] at e2
    cases e2
  exact (sb.2 b nb).trans e1
theorem Ents.stay {h h' : Heap} (hE : Ents w h es ks) (ho : h.get? d = some o) (hd : o.data = .dict es ep) (sb : Heap.SameBut d h h') : Ents w h' es ks := by
  refine ⟨hE.len, fun i k hi => ?_, hE.once⟩
  obtain ⟨e, h1, h2, h3⟩ := hE.ent i k hi
  exact ⟨e, h1, h2, h3.stay ho hd sb⟩
theorem Ents.add {h : Heap} {x : Value} (hE : Ents w h es ks) (hk : KeyAt h k v) (n : place ks k = none) : Ents w h (es.push ⟨k.hash w, v, x⟩) (ks ++ [k]) := by
  refine ⟨by rw [List.length_append, Array.size_push, hE.len]; rfl, fun i y hi => ?_, ?_⟩
  · rcases Nat.lt_or_ge i ks.length with l | l
    · rw [List.getElem?_append_left l] at hi
      obtain ⟨e, h1, h2⟩ := hE.ent i y hi
      refine ⟨e, ?_, h2⟩
      rw [Array.getElem?_push, if_neg (by rw [← hE.len]; omega)]
      exact h1
    · rw [List.getElem?_append_right l] at hi
      have e0 : i - ks.length = 0 := by
        have := (List.getElem?_eq_some_iff.mp hi).1
        rw [List.length_singleton] at this
        omega
      rw [e0] at hi
      cases hi
      refine ⟨⟨k.hash w, v, x⟩, ?_, rfl, hk⟩
      rw [Array.getElem?_push, if_pos (by rw [← hE.len]; omega)]
  · refine List.nodup_append.mpr ⟨hE.once, List.nodup_cons.mpr ⟨List.not_mem_nil, List.nodup_nil⟩, fun a ha b hb => ?_⟩
    rw [List.mem_singleton.mp hb]
    exact fun z => place_none n (z ▸ ha)
theorem Ents.over {h : Heap} {i : Nat} {x : Value} (hE : Ents w h es ks) : Ents w h (es.modify i fun e => { e with val := x }) ks := by
  refine ⟨by rw [Array.size_modify]; exact hE.len, fun j y hj => ?_, hE.once⟩
  obtain ⟨e, h1, h2, h3⟩ := hE.ent j y hj
  rw [Array.getElem?_modify, h1]
  by_cases c : i = j
  · rw [if_pos c]
    exact ⟨_, rfl, h2, h3⟩
  · rw [if_neg c]
    exact ⟨_, rfl, h2, h3⟩
/-- the entries behind d[k] = x -/
def putE (w : World) (es : Array DictEntry) (ks : List NestedKey) (k : NestedKey) (v x : Value) : Array DictEntry × List NestedKey := match place ks k with
  | some i => (es.modify i fun e => { e with val := x }, ks)
  | none => (es.push ⟨k.hash w, v, x⟩, ks ++ [k])
theorem store {x : Value} {Q : Unit → Shared → Prop} (hu : A.units + 8 < cLine) (hk : KeyAt s.heap k v) (D : DictE w s.heap d es ks) (hz : es.size ≤ sizeLine)
    (q : ∀ h', DictE w h' d (putE w es ks k v x).1 (putE w es ks k v x).2 → Heap.SameBut d s.heap h' → Q () { s with heap := h', toks := s.toks + k.draws }) : wpAny (model prog w) A (dictSet d v x) Q E s := by
  obtain ⟨o, ep, ho, hc, hd, hE⟩ := D
  unfold dictSet
  try with_reducible refine wpAny_holding ?_
  refine wpAny_bind (hash_of hu hk ?_)
  unfold dictSetHashed
  try with_reducible refine wpAny_holding ?_
  refine wpAny_bind (find_k (s := { s with toks := s.toks + k.draws }) hu hk ho hd hE ?_)
  unfold putE at q
  cases hp : place ks k with
  | some i =>
    rw [hp] at q
    have sb : Heap.SameBut d s.heap (s.heap.update d (Obj.mapDict fun l => l.modify i fun e => { e with val := x })) := Heap.SameBut.update ..
    exact wpAny_bind (wpAny_rule (wpAny_bind (wpAny_updateDict (s := { s with toks := s.toks + k.draws }) ho hd (wpAny_point (q _ ⟨_, ep, Heap.get?_update_self _ ho (Obj.isFreed_of_dict (Obj.data_mapDict hd _)), hc.mapDict _, Obj.data_mapDict hd _, (hE.stay ho hd sb).over⟩ sb)))))
  | none =>
    rw [hp] at q
    have sb : Heap.SameBut d s.heap (s.heap.update d (Obj.mapDictKeys fun l => l.push ⟨k.hash w, v, x⟩)) := Heap.SameBut.update ..
    exact wpAny_bind (wpAny_rule (wpAny_updateDictKeys (hz := hz) (s := { s with toks := s.toks + k.draws }) ho hd (q _ ⟨_, ep + 1, Heap.get?_update_self _ ho (Obj.isFreed_of_dict (Obj.data_mapDictKeys hd _)), hc.mapDictKeys _, Obj.data_mapDictKeys hd _, (hE.stay ho hd sb).add (hk.stay ho hd sb) hp⟩ sb)))
theorem gotE_some : (gotE es ks k).isSome = true ↔ ∃ i e, place ks k = some i ∧ es[i]? = some e := by
  unfold gotE
  cases hp : place ks k with
  | none => simp
  | some i => cases he : es[i]? <;> simp [he]
/-- k in d -/
theorem has_k {Q : Value → Shared → Prop} (hu : A.units + 1 + 8 < cLine) (hk : KeyAt s.heap k v) (nm : (d == sysModules) = false) (D : DictE w s.heap d es ks) (q : Q (.bool (gotE es ks k).isSome) { s with toks := s.toks + k.draws }) :
    wpAny (model prog w) A (compareOp .In v (.ref d)) Q E s := by
  show wpAny _ _ (do return .bool (← contains (.ref d) v)) Q E s
  refine wpAny_bind (wpAny_contains_slot D.isDict F.slot_dict_contains (call_meetsIn F.slot_dict_contains D.isDict F.entry_dict_contains (F.args_dict_contains_2 _ _) (S := fun B R t => B = A ∧ t = s ∧ R (.ok (.ret (.bool (gotE es ks k).isSome))) { s with toks := s.toks + k.draws }) (fun B R t hS => ?_) ⟨rfl, rfl, wpAny_truthy_bool (wpAny_pure q)⟩))
  obtain ⟨rfl, rfl, hR⟩ := hS
  show wpAny _ _ (dictGet d v >>= _) _ _ _
  refine wpAny_bind (look (A := B.in1) hu hk D ?_)
  cases hg : gotE es ks k with
  | some x =>
    rw [hg] at hR
    show wpAny _ _ (ret (.bool true)) _ _ _
    exact wpAny_pure hR
  | none =>
    rw [hg] at hR
    show wpAny _ _ (Builtin.Dict.pendingKey? d v >>= _) _ _ _
    exact wpAny_bind (wpAny_pendingKey_other nm (wpAny_pure hR))
/-- d[k], which is there -/
theorem item_k {x : Value} {Q : Value → Shared → Prop} (hu : A.units + 1 + 8 < cLine) (hk : KeyAt s.heap k v) (D : DictE w s.heap d es ks) (g : gotE es ks k = some x) (q : Q x { s with toks := s.toks + k.draws }) : wpAny (model prog w) A (getItem (.ref d) v) Q E s := by
  unfold getItem
  try with_reducible refine wpAny_holding ?_
  refine wpAny_bind (wpAny_sequenceKey D.isDict (by decide) (wpAny_bind (wpAny_callSpecial?_slot (name := Str.ofString "__getitem__") D.isDict slot_dict_getitem (wpAny_call_entry slot_dict_getitem D.isDict entry_dict_getitem ?_ (args_dict_getitem _ _)))))
  show wpAny _ _ (dictGet d v >>= _) _ _ s
  refine wpAny_bind (look (A := A.in1) hu hk D ?_)
  rw [g]
  exact wpAny_pure ⟨x, rfl, wpAny_pure q⟩
/-- d[k] = x -/
theorem put_k {x : Value} {Q : Unit → Shared → Prop} (hu : A.units + 1 + 8 < cLine) (hk : KeyAt s.heap k v) (D : DictE w s.heap d es ks) (hz : es.size ≤ sizeLine)
    (q : ∀ h', DictE w h' d (putE w es ks k v x).1 (putE w es ks k v x).2 → Heap.SameBut d s.heap h' → Q () { s with heap := h', toks := s.toks + k.draws }) : wpAny (model prog w) A (setItem (.ref d) v x) Q E s := by
  unfold setItem
  try with_reducible refine wpAny_holding ?_
  refine wpAny_bind (wpAny_sequenceKey D.isDict (by decide) (wpAny_bind (wpAny_callSpecial?_slot (name := Str.ofString "__setitem__") D.isDict slot_dict_setitem (wpAny_call_entry slot_dict_setitem D.isDict entry_dict_setitem ?_ (args_dict_setitem _ _ _)))))
  show wpAny _ _ (Builtin.Dict.notOrdered "__setitem__" ⟨[.ref d, v, x], []⟩ >>= _) _ _ s
  refine wpAny_bind (wpAny_notOrdered_dict D.isDict ?_)
  show wpAny _ _ (dictSet d v x >>= _) _ _ s
  exact wpAny_bind (store (A := A.in1) hu hk D hz fun h' D' sb => wpAny_pure ⟨.none, rfl, wpAny_pure (q h' D' sb)⟩)
/-- d.get(k, x) -/
theorem get_k {x : Value} {Q : Value → Shared → Prop} (hu : A.units + 1 + 8 < cLine) (hk : KeyAt s.heap k v) (nm : (d == sysModules) = false) (D : DictE w s.heap d es ks) (q : Q ((gotE es ks k).getD x) { s with toks := s.toks + k.draws }) :
    wpAny (model prog w) A (call (.builtin "dict.get") [.ref d, v, x]) Q E s := by
  refine call_meetsIn F.slot_dict_get D.isDict F.entry_dict_get (F.args_dict_get_3 _ _ _) (S := fun B R t => B = A ∧ t = s ∧ R (.ok (.ret ((gotE es ks k).getD x))) { s with toks := s.toks + k.draws }) (fun B R t hS => ?_) ⟨rfl, rfl, q⟩
  obtain ⟨rfl, rfl, hR⟩ := hS
  show wpAny _ _ (dictGet d v >>= _) _ _ _
  refine wpAny_bind (look (A := B.in1) hu hk D ?_)
  cases hg : gotE es ks k with
  | some y =>
    rw [hg] at hR
    exact wpAny_pure hR
  | none =>
    rw [hg] at hR
    show wpAny _ _ (Builtin.Dict.missed d v >>= _) _ _ _
    exact wpAny_bind (wpAny_missed_other nm (wpAny_pure hR))
end
end UP.Dx

set_option Elab.async false
set_option linter.all false
set_option maxRecDepth 100000
set_option maxHeartbeats 4000000
set_option pp.maxSteps 500
/-! ### dicts whose keys are None and tuples: what the walks say of them -/
namespace UP
open PySem PySem.Spec PyProof.Rows L2
mutual
/-- the value v is the key k -/
inductive NK (H : Hp) : NestedKey → V → Prop
  | non : NK H .none .non
  | int (i : Int) : NK H (.num i) (.int i)
  | str (x : Str) : NK H (.text x) (.str x)
  | tup {a : Addr} {xs : List V} {ks : List NestedKey} : H a = some (.tup xs) → NKs H ks xs → NK H (.tup ks) (.ref a)
inductive NKs (H : Hp) : List NestedKey → List V → Prop
  | nil : NKs H [] []
  | cons {k : NestedKey} {v : V} {ks : List NestedKey} {vs : List V} : NK H k v → NKs H ks vs → NKs H (k :: ks) (v :: vs)
end
mutual
theorem NK.at {H H' : Hp} (t : ∀ a xs, H a = some (.tup xs) → H' a = some (.tup xs)) : ∀ {k : NestedKey} {v : V}, NK H k v → NK H' k v
  | _, _, .non => .non
  | _, _, .int i => .int i
  | _, _, .str x => .str x
  | _, _, .tup h r => .tup (t _ _ h) (NKs.at t r)
theorem NKs.at {H H' : Hp} (t : ∀ a xs, H a = some (.tup xs) → H' a = some (.tup xs)) : ∀ {ks : List NestedKey} {vs : List V}, NKs H ks vs → NKs H' ks vs
  | _, _, .nil => .nil
  | _, _, .cons h r => .cons (NK.at t h) (NKs.at t r)
end
mutual
theorem NK.is {P : Program} {w : World} {H : Hp} {h : Heap} (ok : HOk P w H h) : ∀ {k : NestedKey} {v : V} {u : Value}, NK H k v → RelV v u → NestedIs h k u
  | _, _, _, .non, r => by cases (show _ = Value.none from r); exact .none
  | _, _, _, .int i, r => by obtain ⟨t, rfl⟩ := (show ∃ t, _ = Value.int i t from r); exact .int i t
  | _, _, _, .str x, r => by obtain ⟨t, rfl⟩ := (show ∃ t, _ = Value.str x t from r); exact .text x t
  | _, _, _, .tup (a := a) (xs := xs) e q, r => by
    cases (show _ = Value.ref a from r)
    obtain ⟨_, its, rl, o, h1, h2, n, h3⟩ := (show ObjOk P w H h a (.tup xs) from ok a _ e)
    exact .tup h1 h2 h3 (by simpa using NKs.is ok q rl)
theorem NKs.is {P : Program} {w : World} {H : Hp} {h : Heap} (ok : HOk P w H h) : ∀ {ks : List NestedKey} {vs : List V} {us : List Value}, NKs H ks vs → Vals vs us → NestedAll h ks us
  | _, _, _, .nil, .nil => .nil
  | _, _, _, .cons x y, .cons r t => .cons (NK.is ok x r) (NKs.is ok y t)
end
abbrev RowX := NestedKey × V × V
/-- a key as these dicts have it: None or a tuple -/
structure KeyIn (H : Hp) (k : NestedKey) (v : V) : Prop where
  tell : NK H k v
  low : k.depth ≤ 8
  form : v = .non ∨ ∃ a, v = .ref a
theorem KeyIn.at {H H' : Hp} {k : NestedKey} {v : V} (x : KeyIn H k v) (t : ∀ a xs, H a = some (.tup xs) → H' a = some (.tup xs)) : KeyIn H' k v := ⟨x.tell.at t, x.low, x.form⟩
theorem KeyIn.same {H H' : Hp} {k : NestedKey} {v : V} (x : KeyIn H k v) (s : Same H H') : KeyIn H' k v := x.at fun a xs h => s a _ h
theorem KeyIn.is {P : Program} {w : World} {H : Hp} {h : Heap} {k : NestedKey} {v : V} {u : Value} (x : KeyIn H k v) (ok : HOk P w H h) (r : RelV v u) : Dx.KeyAt h k u := by
  refine ⟨x.tell.is ok r, x.low, ?_⟩
  rcases x.form with rfl | ⟨a, rfl⟩
  · exact .inl r
  · exact .inr ⟨a, r⟩
structure RowE (w : World) (r : RowX) (e : DictEntry) : Prop where
  hash : e.hash = r.1.hash w
  key : RelV r.2.1 e.key
  val : RelV r.2.2 e.val
def DX (w : World) (a : Addr) (rows : List RowX) : HO := .ext fun h => (a == sysModules) = false ∧ (rows.map (·.1)).Nodup ∧ ∃ o es ep, h.get? a = some o ∧ o.ExactDict ∧ o.data = .dict es ep ∧ Paired (RowE w) rows es.toList
/-- at a stands a dict with these rows -/
structure DXs (w : World) (H : Hp) (a : Addr) (rows : List RowX) : Prop where
  there : H a = some (DX w a rows)
  keys : ∀ r ∈ rows, KeyIn H r.1 r.2.1
theorem DXs.same {w : World} {H H' : Hp} {a : Addr} {rows : List RowX} (x : DXs w H a rows) (s : Same H H') : DXs w H' a rows := ⟨s a _ x.there, fun r hr => (x.keys r hr).same s⟩
theorem not_tup {w : World} {a : Addr} {rows : List RowX} {xs : List V} : DX w a rows ≠ .tup xs := fun z => by cases z
theorem upd_tups {w : World} {H : Hp} {a : Addr} {rows : List RowX} {o : HO} (h : H a = some (DX w a rows)) : ∀ b xs, H b = some (.tup xs) → upd H a o b = some (.tup xs) := fun b xs e => by
  have n : b ≠ a := fun z => by
    rw [z, h] at e
    exact not_tup (Option.some.inj e)
  rw [upd_ne n]
  exact e
/-- the value at a key -/
def valX (rows : List RowX) (k : NestedKey) : Option V := (Dx.place (rows.map (·.1)) k).bind fun i => rows[i]?.map (·.2.2)
def putX (rows : List RowX) (k : NestedKey) (y v : V) : List RowX := match Dx.place (rows.map (·.1)) k with
  | some i => rows.modify i fun r => (r.1, r.2.1, v)
  | none => rows ++ [(k, y, v)]
theorem valX_none {rows : List RowX} {k : NestedKey} : valX rows k = none ↔ k ∉ rows.map (·.1) := by
  unfold valX
  constructor
  · intro h hm
    cases hp : Dx.place (rows.map (·.1)) k with
    | none => exact Dx.place_none hp hm
    | some i =>
      rw [hp] at h
      have := Dx.place_ok hp
      rw [List.getElem?_map] at this
      cases hr : rows[i]? with
      | none => rw [hr] at this; cases this
      | some r => simp [hr] at h
  · intro h
    rw [Dx.place_no fun i hi => h (List.mem_of_getElem? hi)]
    rfl
theorem valX_isSome {rows : List RowX} {k : NestedKey} : (valX rows k).isSome = decide (k ∈ rows.map (·.1)) := by
  by_cases h : k ∈ rows.map (·.1)
  · rw [decide_eq_true h]
    cases e : valX rows k with
    | none => exact absurd h (valX_none.mp e)
    | some x => rfl
  · rw [decide_eq_false h, valX_none.mpr h]
    rfl
theorem putX_new {rows : List RowX} {k : NestedKey} {y v : V} (h : k ∉ rows.map (·.1)) : putX rows k y v = rows ++ [(k, y, v)] := by
  unfold putX
  rw [Dx.place_no fun i hi => h (List.mem_of_getElem? hi)]
theorem modify_keys {rows : List RowX} {i : Nat} {v : V} : (rows.modify i fun r => (r.1, r.2.1, v)).map (·.1) = rows.map (·.1) := by
  refine List.ext_getElem? fun j => ?_
  rw [List.getElem?_map, List.getElem?_map, List.getElem?_modify]
  cases rows[j]? with
  | none => rfl
  | some r =>
    by_cases c : i = j
    · simp [c]
    · simp [c]
theorem paired_get {α β : Type} {F : α → β → Prop} : ∀ {l : List α} {m : List β} {i : Nat}, Paired F l m → (l[i]? = none ∧ m[i]? = none) ∨ ∃ a b, l[i]? = some a ∧ m[i]? = some b ∧ F a b
  | _, _, _, .nil => .inl ⟨by simp, by simp⟩
  | _, _, 0, .cons h _ => .inr ⟨_, _, rfl, rfl, h⟩
  | _, _, i + 1, .cons _ t => by
    rcases paired_get (i := i) t with ⟨h1, h2⟩ | ⟨a, b, h1, h2, h3⟩
    · exact .inl ⟨by simpa using h1, by simpa using h2⟩
    · exact .inr ⟨a, b, by simpa using h1, by simpa using h2, h3⟩
theorem paired_modify {α β : Type} {F : α → β → Prop} {f : α → α} {g : β → β} (fg : ∀ a b, F a b → F (f a) (g b)) : ∀ {l : List α} {m : List β} (i : Nat), Paired F l m → Paired F (l.modify i f) (m.modify i g)
  | _, _, i, .nil => by cases i <;> exact .nil
  | _, _, 0, .cons h t => .cons (fg _ _ h) t
  | _, _, i + 1, .cons h t => .cons h (paired_modify fg i t)
section
variable {X : Cx} {pins : List (Addr × Obj)} {σ : L2.St} {H : Hp} {s : Shared} {a : Addr} {A : Around} {E : Value → Shared → Prop} {rows : List RowX} {k : NestedKey} {y v : V} {u r : Value} {P : Program} {w : World} {h : Heap}
theorem DXs.ents (D : DXs w H a rows) (ok : HOk P w H h) : (a == sysModules) = false ∧ ∃ es, Dx.DictE w h a es (rows.map (·.1)) ∧ Paired (RowE w) rows es.toList := by
  obtain ⟨⟨hd, nd, o, es, ep, h1, h2, h3, pr⟩, _, _⟩ := (show ObjOk P w H h a (DX w a rows) from ok a _ D.there)
  refine ⟨hd, es, ⟨o, ep, h1, h2, h3, ⟨by rw [List.length_map, Paired.length pr, Array.length_toList], fun i k hi => ?_, nd⟩⟩, pr⟩
  rw [List.getElem?_map] at hi
  rcases paired_get (i := i) pr with ⟨e1, _⟩ | ⟨r, e, e1, e2, e3⟩
  · rw [e1] at hi; cases hi
  · rw [e1] at hi
    cases hi
    exact ⟨e, by simpa using e2, e3.hash, (D.keys r (List.mem_of_getElem? e1)).is ok e3.key⟩
theorem got_rel {es : Array DictEntry} (pr : Paired (RowE w) rows es.toList) (k : NestedKey) : RelO (valX rows k) (Dx.gotE es (rows.map (·.1)) k) := by
  unfold valX Dx.gotE
  cases Dx.place (rows.map (·.1)) k with
  | none => trivial
  | some i =>
    show RelO (rows[i]?.map _) (es[i]?.map _)
    rw [← Array.getElem?_toList]
    rcases paired_get (i := i) pr with ⟨e1, e2⟩ | ⟨r, e, e1, e2, e3⟩
    · rw [e1, e2]; trivial
    · rw [e1, e2]; exact e3.val
theorem put_rel {es : Array DictEntry} (pr : Paired (RowE w) rows es.toList) (ry : RelV y u) (rv : RelV v r) : Paired (RowE w) (putX rows k y v) (Dx.putE w es (rows.map (·.1)) k u r).1.toList ∧ (putX rows k y v).map (·.1) = (Dx.putE w es (rows.map (·.1)) k u r).2 := by
  unfold putX Dx.putE
  cases Dx.place (rows.map (·.1)) k with
  | none =>
    refine ⟨?_, by rw [List.map_append]; rfl⟩
    show Paired _ _ (es.push _).toList
    rw [Array.toList_push]
    exact Paired.snoc pr ⟨rfl, ry, rv⟩
  | some i =>
    refine ⟨?_, modify_keys⟩
    show Paired _ _ (es.modify i _).toList
    rw [Array.toList_modify]
    exact paired_modify (fun x e z => ⟨z.hash, z.key, rv⟩) i pr
theorem putX_keys {x : RowX} (hx : x ∈ putX rows k y v) : x.1 = k ∧ x.2.1 = y ∨ ∃ z ∈ rows, z.1 = x.1 ∧ z.2.1 = x.2.1 := by
  unfold putX at hx
  cases hp : Dx.place (rows.map (·.1)) k with
  | none =>
    rw [hp] at hx
    rcases List.mem_append.mp hx with z | z
    · exact .inr ⟨x, z, rfl, rfl⟩
    · rw [List.mem_singleton.mp z]
      exact .inl ⟨rfl, rfl⟩
  | some i =>
    rw [hp] at hx
    obtain ⟨j, hj⟩ := List.getElem?_of_mem hx
    rw [List.getElem?_modify] at hj
    cases hr : rows[j]? with
    | none => rw [hr] at hj; cases hj
    | some z =>
      rw [hr] at hj
      refine .inr ⟨z, List.mem_of_getElem? hr, ?_⟩
      replace hj : (if i = j then (z.1, z.2.1, v) else z) = x := Option.some.inj hj
      by_cases c : i = j
      · rw [if_pos c] at hj
        rw [← hj]
        exact ⟨rfl, rfl⟩
      · rw [if_neg c] at hj
        rw [← hj]
        exact ⟨rfl, rfl⟩
theorem DXs.put (D : DXs w H a rows) (K : KeyIn H k y) : DXs w (upd H a (DX w a (putX rows k y v))) a (putX rows k y v) :=
  ⟨upd_same, fun x hx => by
    rcases putX_keys hx with ⟨e1, e2⟩ | ⟨z, hz, e1, e2⟩
    · rw [e1, e2]
      exact K.at (upd_tups D.there)
    · rw [← e1, ← e2]
      exact (D.keys z hz).at (upd_tups D.there)⟩
/-- y in d -/
theorem x_in {Q : Value → Shared → Prop} (hu : A.units + 65 < cLine) (I : Inv X pins σ H s) (D : DXs X.w H a rows) (K : KeyIn H k y) (ry : RelV y u) (h : ∀ s', Inv X pins σ H s' → Q (.bool (valX rows k).isSome) s') :
    wpAny (model X.prog X.w) A (compareOp .In u (.ref a)) Q E s := by
  obtain ⟨hd, es, dd, pr⟩ := D.ents I.hok
  refine Dx.has_k (k := k) (by omega) (K.is I.hok ry) hd dd ?_
  rw [← (got_rel pr k).isSome_eq]
  exact h _ (I.tok _)
/-- d[y] -/
theorem x_item {Q : Value → Shared → Prop} (hu : A.units + 65 < cLine) (I : Inv X pins σ H s) (D : DXs X.w H a rows) (K : KeyIn H k y) (ry : RelV y u) (g : valX rows k = some v) (h : ∀ w' s', Inv X pins σ H s' → RelV v w' → Q w' s') :
    wpAny (model X.prog X.w) A (getItem (.ref a) u) Q E s := by
  obtain ⟨hd, es, dd, pr⟩ := D.ents I.hok
  have q := got_rel pr k
  rw [g] at q
  obtain ⟨x, hx, rx⟩ := RelO.some_of q
  exact Dx.item_k (k := k) (by omega) (K.is I.hok ry) dd hx (h x _ (I.tok _) rx)
theorem x_new {es : Array DictEntry} {h' : Heap} (hd : (a == sysModules) = false) (pr : Paired (RowE w) rows es.toList) (dd : Dx.DictE w h' a es (rows.map (·.1))) : ObjOk P w H h' a (DX w a rows) := by
  obtain ⟨o, ep, h1, h2, h3, hE⟩ := dd
  exact ⟨⟨hd, hE.once, o, es, ep, h1, h2, h3, pr⟩, ⟨o, h1⟩, fun _ _ ⟨p1, p2, o, es, ep, q1, q2, q3, q4⟩ st => ⟨p1, p2, o, es, ep, st _ q1, q2, q3, q4⟩⟩
/-- d[y] = v -/
theorem x_setItem {Q : Unit → Shared → Prop} (hu : A.units + 65 < cLine) (I : Inv X pins σ H s) (D : DXs X.w H a rows) (K : KeyIn H k y) (hz : rows.length ≤ sizeLine) (ry : RelV y u) (rv : RelV v r) (h : ∀ s', Inv X pins σ (upd H a (DX X.w a (putX rows k y v))) s' → Q () s') :
    wpAny (model X.prog X.w) A (setItem (.ref a) u r) Q E s := by
  obtain ⟨hd, es, dd, pr⟩ := D.ents I.hok
  refine Dx.put_k (k := k) (by omega) (K.is I.hok ry) dd (by rw [← Array.length_toList, ← Paired.length pr]; exact hz) fun h' dd' sb => h _ ?_
  obtain ⟨p1, p2⟩ := put_rel (k := k) pr ry rv
  refine d_write I (by rw [D.there]; exact True.intro) sb (let ⟨o, _, h1, _⟩ := dd'; ⟨o, h1⟩) (x_new hd p1 ?_)
  rw [p2]
  exact dd'
theorem x_store {Q : Unit → Shared → Prop} (hu : A.units + 65 < cLine) (I : Inv X pins σ H s) (D : DXs X.w H a rows) (K : KeyIn H k y) (hz : rows.length ≤ sizeLine) (ry : RelV y u) (rv : RelV v r) (h : ∀ s', Inv X pins σ (upd H a (DX X.w a (putX rows k y v))) s' → Q () s') :
    wpAny (model X.prog X.w) A (dictSet a u r) Q E s := by
  obtain ⟨hd, es, dd, pr⟩ := D.ents I.hok
  refine Dx.store (k := k) (by omega) (K.is I.hok ry) dd (by rw [← Array.length_toList, ← Paired.length pr]; exact hz) fun h' dd' sb => h _ ?_
  obtain ⟨p1, p2⟩ := put_rel (k := k) pr ry rv
  refine d_write I (by rw [D.there]; exact True.intro) sb (let ⟨o, _, h1, _⟩ := dd'; ⟨o, h1⟩) (x_new hd p1 ?_)
  rw [p2]
  exact dd'
theorem x_typeIs (I : Inv X pins σ H s) (D : DXs X.w H a rows) : s.TypeIs (.ref a) "dict" := by
  obtain ⟨_, es, dd, _⟩ := D.ents I.hok
  exact dd.isDict
theorem x_empty (h : Heap) (hb : sysModules < h.objs.size) : ObjOk P w H (h.push { cls := .type "dict", data := .dict #[] }) h.objs.size (DX w h.objs.size []) :=
  ⟨⟨beq_eq_false_iff_ne.mpr (Ne.symm (Nat.ne_of_lt hb)), List.nodup_nil, _, #[], 0, Heap.get?_push_size _ rfl, ⟨rfl, rfl, rfl⟩, rfl, .nil⟩, ⟨_, Heap.get?_push_size _ rfl⟩, fun _ _ ⟨p1, p2, o, es, ep, q1, q2, q3, q4⟩ st => ⟨p1, p2, o, es, ep, st _ q1, q2, q3, q4⟩⟩
end
/-! readings and rules -/
def rInX (w : World) : V → V → Hp → VK → Prop := fun y x H Q => ∃ (a : Addr) (rows : List RowX) (k : NestedKey), x = .ref a ∧ DXs w H a rows ∧ KeyIn H k y ∧ Q (.bl (valX rows k).isSome) H
def tDGetX (w : World) (td ty : TE) : TE := fun σ H Q => td σ H fun x H1 => ty σ H1 fun y H2 => ∃ (a : Addr) (rows : List RowX) (k : NestedKey) (v : V), x = .ref a ∧ DXs w H2 a rows ∧ KeyIn H2 k y ∧ valX rows k = some v ∧ Q v H2
def sDPutX (w : World) (td ty tv : TE) : TS := fun D σ H => tv σ H fun v H1 => td σ H1 fun x H2 => ty σ H2 fun y H3 => ∃ (a : Addr) (rows : List RowX) (k : NestedKey), x = .ref a ∧ DXs w H3 a rows ∧ KeyIn H3 k y ∧ rows.length ≤ sizeLine ∧ D.nx σ (upd H3 a (DX w a (putX rows k y v)))
def tDNewX (w : World) : TE := fun _ H Q => ∀ p, H p = none → Q (.ref p) (upd H p (DX w p []))
/-- {y: v} -/
def tDOneX (w : World) (ty tv : TE) : TE := fun σ H Q => ∀ p, H p = none → ty σ (upd H p (DX w p [])) fun y H1 => tv σ H1 fun v H2 => H2 p = some (DX w p []) ∧ ∃ k : NestedKey, KeyIn H2 k y ∧ Q (.ref p) (upd H2 p (DX w p [(k, y, v)]))
section
variable {X : Cx} {o i e value : Expr} {pos pos' tpos : Pos} {td ty tv : TE} {w : World}
theorem op_inX (hw : X.w = w) (hu : X.A.units + 65 < cLine) : OpR X (compareOp .In) (rInX w) := by
  subst hw
  rintro pins s σ H y x u r Q I ry rx ⟨a, rows, k, rfl, D, K, q⟩
  cases (show r = Value.ref a from rx)
  exact x_in hu I D K ry fun s' I' => ⟨.bl (valX rows k).isSome, H, I', rfl, q⟩
theorem pe_dgetX (hw : X.w = w) (hu : X.A.units + 65 < cLine) (ho : PE X o td) (hi : PE X i ty) (hs : NoSl i) : PE X (.Subscript o i pos) (tDGetX w td ty) := by
  subst hw
  refine ⟨fun pins s σ H Q I h => ?_⟩
  refine subD_of PySem.F.slot_dict_getitem.lookup hs (thn (ho.run pins s σ H _ I h) fun u s1 ⟨x, H1, I1, rx, q1⟩ => thn (hi.run pins s1 σ H1 _ I1 q1) fun iv s2 ⟨y, H2, I2, ry, a, rows, k, v, ex, D, K, g, q2⟩ => ?_)
  subst ex
  obtain rfl : u = Value.ref a := rx
  exact ⟨x_typeIs I2 D, x_item hu I2 D K ry g fun w' s3 I3 rw' => ⟨v, H2, I3, rw', q2⟩⟩
theorem ps_dputX (hw : X.w = w) (hu : X.A.units + 65 < cLine) (ho : PE X o td) (hi : PE X i ty) (hv : PE X value tv) (hs : swapsWith value (some (.Subscript o i pos')) pos.line X.env = pure false) :
    PS X (.Assign [.Subscript o i pos'] value pos) (sDPutX w td ty tv) := by
  subst hw
  refine ⟨fun pins s σ H D I h => ?_⟩
  refine wpAny_Assign_Subscript (thn (hv.run pins s σ H _ I h) fun r s1 ⟨v, H1, I1, rv, q1⟩ => thn (ho.run pins s1 σ H1 _ I1 q1) fun u s2 ⟨x, H2, I2, rx, q2⟩ => thn (hi.run pins s2 σ H2 _ I2 q2) fun iv s3 ⟨y, H3, I3, ry, a, rows, k, ex, g, K, hz, q3⟩ => ?_) hs
  subst ex
  obtain rfl : u = Value.ref a := rx
  exact x_setItem hu I3 g K hz ry rv fun s4 I4 => ⟨σ, _, I4, q3⟩
theorem pe_dnewX (hw : X.w = w) : PE X (.Dict [] [] pos) (tDNewX w) := by
  subst hw
  exact ⟨fun pins s σ H Q I h => wpAny_Dict_empty ⟨.ref s.heap.objs.size, _, I.laid (a := s.heap.objs.size) (o := DX X.w s.heap.objs.size []) (t' := s.toks) (fun _ _ q => Heap.get?_push_of_some _ q) (Nat.le_refl _) (x_empty s.heap I.big), rfl, h _ (I.hok.fresh (Nat.le_refl _))⟩⟩
theorem pe_doneX (hw : X.w = w) (hu : X.A.units + 65 < cLine) (hk : PE X i ty) (hv : PE X value tv) : PE X (.Dict [some i] [value] pos) (tDOneX w ty tv) := by
  subst hw
  refine ⟨fun pins s σ H Q I q => ?_⟩
  have hn := I.hok.fresh (Nat.le_refl s.heap.objs.size)
  have I1 := I.laid (a := s.heap.objs.size) (o := DX X.w s.heap.objs.size []) (h' := s.heap.push { cls := .type "dict", data := .dict #[] }) (t' := s.toks) (fun _ _ q => Heap.get?_push_of_some _ q) (Nat.le_refl _) (x_empty s.heap I.big)
  refine wpAny_Dict_any rfl rfl (fun z => by cases z) (show 1 ≤ 15 by decide) (pairTrees_cons_walk (thn (hk.run pins _ σ _ _ I1 (q _ hn)) fun u s1 ⟨y, H1, I1, ry, q1⟩ => thn (hv.run pins s1 σ H1 _ I1 q1) fun r s2 ⟨v, H2, I2, rv, e, k, K, q2⟩ => pairTrees_nil_walk ?_))
  unfold storeAll
  rw [List.forIn_cons]
  refine wpAny_bind (wpAny_bind (x_store hu I2 ⟨e, fun r hr => by cases hr⟩ K (Nat.zero_le _) ry rv fun s3 I3 => wpAny_pure ?_))
  show wpAny _ _ (forIn [] PUnit.unit _) _ _ _
  rw [List.forIn_nil]
  exact wpAny_pure ⟨.ref s.heap.objs.size, _, I3, rfl, q2⟩
end
end UP

set_option Elab.async false
set_option linter.all false
set_option maxRecDepth 100000
set_option maxHeartbeats 4000000
namespace UP
open PySem PySem.Spec PyProof.Rows L2 L2.DX
/-! ### kinds counted -/
structure CT (ks : List Run) (its : List Str) : Prop where
  nd : (ks.map (·.1)).Nodup
  val : ∀ e ∈ ks, e.2 = ((its.count e.1 : Nat) : Int)
  cov : ∀ k, k ∈ its ↔ k ∈ ks.map (·.1)
  sum : (ks.map (·.2)).sum = (its.length : Int)
theorem CT.nil : CT [] [] := ⟨List.nodup_nil, (fun e h => by cases h), (fun k => Iff.rfl), rfl⟩
theorem sum_perm {l m : List Run} (h : l.Perm m) : (l.map (·.2)).sum = (m.map (·.2)).sum := by
  induction h with
  | nil => rfl
  | cons x _ ih => rw [List.map_cons, List.map_cons, List.sum_cons, List.sum_cons, ih]
  | swap x y l =>
    simp only [List.map_cons, List.sum_cons]
    omega
  | trans _ _ h1 h2 => exact h1.trans h2
theorem CT.perm {l m : List Run} {its : List Str} (h : l.Perm m) (c : CT m its) : CT l its :=
  ⟨(h.map _).symm.nodup c.nd, fun e he => c.val e (h.mem_iff.mp he), fun k => (c.cov k).trans (h.map _).mem_iff.symm, (sum_perm h).trans c.sum⟩
theorem val_ent {ks : List Run} {k : Str} : valV (ks.map entK) (Sum.inr k) = (ks.find? fun e => decide (e.1 = k)).map fun e => V.int e.2 := by
  induction ks with
  | nil => rfl
  | cons e t ih =>
    rw [List.map_cons]
    by_cases c : e.1 = k
    · have e1 : List.find? (fun e : Run => decide (e.1 = k)) (e :: t) = some e := by
        rw [List.find?_cons, show (decide (e.1 = k)) = true from decide_eq_true c]
      rw [valV_pos (p := entK e) (by show (Sum.inr e.1 : L2.Key) = _; rw [c]), e1]
      rfl
    · have e1 : List.find? (fun e : Run => decide (e.1 = k)) (e :: t) = List.find? (fun e : Run => decide (e.1 = k)) t := by
        rw [List.find?_cons, show (decide (e.1 = k)) = false from decide_eq_false c]
      rw [valV_neg (p := entK e) (fun z => c (Sum.inr.inj z)), e1]
      exact ih
/-- what a dict of counts says of a kind -/
theorem CT.get {ks : List Run} {its : List Str} (c : CT ks its) (k : Str) : (valV (ks.map entK) (Sum.inr k)).getD (.int 0) = .int ((its.count k : Nat) : Int) := by
  rw [val_ent]
  cases h : ks.find? fun e => decide (e.1 = k) with
  | none =>
    have no : k ∉ its := fun hk => by
      obtain ⟨e, he, ek⟩ := List.mem_map.mp ((c.cov k).mp hk)
      have := List.find?_eq_none.mp h e he
      exact this (decide_eq_true ek)
    rw [List.count_eq_zero_of_not_mem no]
    rfl
  | some e =>
    have e0 := List.find?_some (p := fun e : Run => decide (e.1 = k)) h
    have e1 : e.1 = k := of_decide_eq_true e0
    have e2 := c.val e (List.mem_of_find?_eq_some h)
    rw [e1] at e2
    show V.int e.2 = _
    rw [e2]
theorem key_map {ks : List Run} {k : Str} {n : Int} : (ks.map entK).map (fun kv => if kv.1 = (Sum.inr k : L2.Key) then (kv.1, V.int n) else kv) = (ks.map fun e => if e.1 = k then (e.1, n) else e).map entK := by
  rw [List.map_map, List.map_map]
  refine List.map_congr_left fun e _ => ?_
  show (if (Sum.inr e.1 : L2.Key) = Sum.inr k then _ else _) = entK (if e.1 = k then (e.1, n) else e)
  by_cases c : e.1 = k
  · rw [if_pos (by rw [c]), if_pos c]
  · rw [if_neg (fun z => c (Sum.inr.inj z)), if_neg c]
theorem sum_set {ks : List Run} {k : Str} {n : Int} {e0 : Run} (nd : (ks.map (·.1)).Nodup) (h : e0 ∈ ks) (e : e0.1 = k) : ((ks.map fun e => if e.1 = k then (e.1, n) else e).map (·.2)).sum = (ks.map (·.2)).sum - e0.2 + n := by
  induction ks with
  | nil => cases h
  | cons x t ih =>
    have nd := List.nodup_cons.mp (show (x.1 :: t.map (·.1)).Nodup from nd)
    simp only [List.map_cons, List.sum_cons]
    by_cases c : x.1 = k
    · have ex : x = e0 := by
        rcases List.mem_cons.mp h with z | z
        · exact z.symm
        · exact absurd (List.mem_map.mpr ⟨e0, z, by rw [e, c]⟩) nd.1
      have keep : (t.map fun e => if e.1 = k then (e.1, n) else e) = t := by
        refine (List.map_congr_left fun y hy => ?_).trans (List.map_id _)
        have : ¬ y.1 = k := fun z => nd.1 (List.mem_map.mpr ⟨y, hy, by rw [z, c]⟩)
        rw [if_neg this]
        rfl
      have e9 : (t.map fun e => if e.1 = k then (e.1, n) else e).map (·.2) = t.map (·.2) := by rw [keep]
      rw [if_pos c, ex]
      show n + ((t.map fun e => if e.1 = k then (e.1, n) else e).map (·.2)).sum = e0.2 + (t.map (·.2)).sum - e0.2 + n
      rw [e9]
      omega
    · have h' : e0 ∈ t := by
        rcases List.mem_cons.mp h with z | z
        · rw [z] at e
          exact absurd e c
        · exact z
      have := ih nd.2 h'
      rw [if_neg c, this]
      omega
theorem CT.put {ks : List Run} {its : List Str} (c : CT ks its) (k : Str) (n : Nat) (hn : 1 ≤ n) : ∃ ks', putK (ks.map entK) (Sum.inr k) (.int (((its.count k : Nat) : Int) + (n : Int))) = ks'.map entK ∧ CT ks' (its ++ List.replicate n k) ∧ ks'.length ≤ ks.length + 1 := by
  have cnt : ∀ j : Str, (its ++ List.replicate n k).count j = its.count j + if j = k then n else 0 := by
    intro j
    rw [List.count_append, List.count_replicate]
    congr 1
    by_cases e : j = k
    · rw [if_pos e, if_pos (by rw [e]; exact beq_self_eq_true k)]
    · rw [if_neg e, if_neg (fun z => e (eq_of_beq z).symm)]
  have mem : ∀ j : Str, j ∈ its ++ List.replicate n k ↔ j ∈ its ∨ j = k := by
    intro j
    rw [List.mem_append, List.mem_replicate]
    exact ⟨fun h => h.elim .inl fun z => .inr z.2, fun h => h.elim .inl fun z => .inr ⟨by omega, z⟩⟩
  by_cases hk : k ∈ its
  · have hk' := (c.cov k).mp hk
    obtain ⟨e0, he0, ek⟩ := List.mem_map.mp hk'
    have any : ((ks.map entK).any fun kv => decide (kv.1 = (Sum.inr k : L2.Key))) = true := by
      rw [List.any_eq_true]
      exact ⟨entK e0, List.mem_map.mpr ⟨e0, he0, rfl⟩, decide_eq_true (by show (Sum.inr e0.1 : L2.Key) = _; rw [ek])⟩
    have keys : (ks.map fun e => if e.1 = k then (e.1, ((its.count k : Nat) : Int) + (n : Int)) else e).map (·.1) = ks.map (·.1) := by
      rw [List.map_map]
      refine List.map_congr_left fun e _ => ?_
      show (if e.1 = k then (e.1, ((its.count k : Nat) : Int) + (n : Int)) else e).1 = e.1
      split <;> rfl
    refine ⟨ks.map fun e => if e.1 = k then (e.1, ((its.count k : Nat) : Int) + (n : Int)) else e, ?_, ⟨by rw [keys]; exact c.nd, fun e he => ?_, fun j => ?_, ?_⟩, by rw [List.length_map]; omega⟩
    · unfold putK
      rw [if_pos any, key_map]
    · obtain ⟨x, hx, ex⟩ := List.mem_map.mp he
      rw [← ex, cnt]
      by_cases d : x.1 = k
      · rw [if_pos d]
        show ((its.count k : Nat) : Int) + (n : Int) = ((its.count x.1 + if x.1 = k then n else 0 : Nat) : Int)
        rw [if_pos d, d]
        omega
      · rw [if_neg d, if_neg d]
        exact c.val x hx
    · rw [keys, mem, c.cov j]
      exact ⟨fun h => h.elim id fun z => by rw [z]; exact hk', .inl⟩
    · rw [sum_set c.nd he0 ek, c.sum, c.val e0 he0, ek, List.length_append, List.length_replicate]
      omega
  · have hk' : k ∉ ks.map (·.1) := fun z => hk ((c.cov k).mpr z)
    have any : ¬ ((ks.map entK).any fun kv => decide (kv.1 = (Sum.inr k : L2.Key))) = true := by
      rw [List.any_eq_true]
      rintro ⟨kv, h1, h2⟩
      obtain ⟨e, he, ee⟩ := List.mem_map.mp h1
      have := of_decide_eq_true h2
      rw [← ee] at this
      exact hk' (List.mem_map.mpr ⟨e, he, Sum.inr.inj this⟩)
    have z0 : its.count k = 0 := List.count_eq_zero_of_not_mem hk
    refine ⟨ks ++ [(k, ((its.count k : Nat) : Int) + (n : Int))], ?_, ⟨?_, fun e he => ?_, fun j => ?_, ?_⟩, by rw [List.length_append]; exact Nat.le_refl _⟩
    · unfold putK
      rw [if_neg any, List.map_append]
      rfl
    · rw [List.map_append]
      refine List.nodup_append.mpr ⟨c.nd, List.nodup_cons.mpr ⟨by simp, List.nodup_nil⟩, fun a ha b hb => ?_⟩
      rw [List.mem_singleton.mp hb]
      intro z
      rw [z] at ha
      exact hk' ha
    · rw [cnt]
      rcases List.mem_append.mp he with z | z
      · have ne : e.1 ≠ k := fun w => hk' (List.mem_map.mpr ⟨e, z, w⟩)
        rw [if_neg ne]
        exact c.val e z
      · rw [List.mem_singleton.mp z]
        show ((its.count k : Nat) : Int) + (n : Int) = ((its.count k + if k = k then n else 0 : Nat) : Int)
        rw [if_pos rfl]
        omega
    · rw [mem, List.map_append, List.mem_append, c.cov j]
      show _ ∨ _ ↔ _ ∨ j ∈ [k]
      rw [List.mem_singleton]
    · rw [List.map_append, List.sum_append, c.sum, List.length_append, List.length_replicate, z0]
      show _ + ((((0 : Nat) : Int) + (n : Int)) + 0) = _
      omega
/-! ### sorted counts are unique -/
theorem Same.butB {H H1 H' : Hp} {D : Addr} (n : H D = none) (s : Same H H1) (b : But D H1 H') : Same H H' := fun a o e => b _ _ (ne_of_none e n) (s _ _ e)
def ltR (x y : Run) : Prop := x.1.cps.toList < y.1.cps.toList
theorem uniq_sorted : ∀ {l m : List Run}, l.Pairwise ltR → m.Pairwise ltR → (∀ x, x ∈ l ↔ x ∈ m) → l = m
  | [], [], _, _, _ => rfl
  | [], b :: m, _, _, h => absurd ((h b).mpr (List.mem_cons_self ..)) (by simp)
  | a :: l, [], _, _, h => absurd ((h a).mp (List.mem_cons_self ..)) (by simp)
  | a :: l, b :: m, hl, hm, h => by
    have hl := List.pairwise_cons.mp hl
    have hm := List.pairwise_cons.mp hm
    have e : a = b := by
      rcases List.mem_cons.mp ((h a).mp (List.mem_cons_self ..)) with z | z
      · exact z
      · rcases List.mem_cons.mp ((h b).mpr (List.mem_cons_self ..)) with w | w
        · exact w.symm
        · exact absurd (hl.1 b w) (List.lt_asymm (hm.1 a z))
    subst e
    congr 1
    refine uniq_sorted hl.2 hm.2 fun x => ⟨fun hx => ?_, fun hx => ?_⟩
    · rcases List.mem_cons.mp ((h x).mp (List.mem_cons_of_mem _ hx)) with z | z
      · rw [z] at hx
        exact absurd (hl.1 a hx) (List.lt_irrefl _)
      · exact z
    · rcases List.mem_cons.mp ((h x).mpr (List.mem_cons_of_mem _ hx)) with z | z
      · rw [z] at hx
        exact absurd (hm.1 a hx) (List.lt_irrefl _)
      · exact z
theorem lt_of_not {x y : Str} (n : x ≠ y) (h : ¬ y.cps.toList < x.cps.toList) : x.cps.toList < y.cps.toList := by
  by_cases c : x.cps.toList < y.cps.toList
  · exact c
  · exact absurd (UPS.str_of (List.le_antisymm h c)) n
theorem CT.strict {ks : List Run} {its : List Str} (c : CT ks its) (s : ks.Pairwise fun x y => UPS.lexS y x = false) : ks.Pairwise ltR := by
  have nd : ks.Pairwise fun x y => x.1 ≠ y.1 := List.pairwise_map.mp c.nd
  refine (List.Pairwise.and nd s).imp fun {x y} h => ?_
  exact lt_of_not h.1 ((UPS.lexS_no.mp h.2).2 fun z => h.1 z.symm)
theorem CT.eq {ks ls : List Run} {its : List Str} (c : CT ks its) (d : CT ls its) (s : ks.Pairwise fun x y => UPS.lexS y x = false) (t : ls.Pairwise fun x y => UPS.lexS y x = false) : ks = ls := by
  have sub : ∀ {a b : List Run}, CT a its → CT b its → ∀ x ∈ a, x ∈ b := by
    intro a b ca cb x hx
    have hk := (ca.cov x.1).mpr (List.mem_map.mpr ⟨x, hx, rfl⟩)
    obtain ⟨e, he, ee⟩ := List.mem_map.mp ((cb.cov x.1).mp hk)
    have : e = x := Prod.ext ee (by rw [cb.val e he, ca.val x hx, ee])
    rw [← this]
    exact he
  exact uniq_sorted (c.strict s) (d.strict t) fun x => ⟨sub c d x, sub d c x⟩

/-! ### runs as a value of any form -/
def dtR (rs : List Run) : Dat := .lst (rs.map fun r => .tup [.str r.1, .int r.2])
theorem kindB_oK {z : Str} (h : KindOk z) : kindB z = true := by
  unfold kindB
  rw [Bool.and_eq_true]
  have h1 := h.1
  have h2 := h.2.1
  exact ⟨decide_eq_true ⟨by omega, by omega⟩, List.all_eq_true.mpr fun c hc => decide_eq_true (h.2.2 c hc)⟩
theorem rp_runs {H : Hp} {p : Addr} {rs : List Run} (h : Runs H p rs) : Rp H (.ref p) (dtR rs) := by
  obtain ⟨xs, hx, hp⟩ := h
  refine .lst hx ?_
  clear hx
  induction hp with
  | nil => exact .nil
  | cons h t ih =>
    obtain ⟨q, rfl, hq⟩ := h
    exact .cons (.tup hq (.cons (.str _) (.cons (.int _) .nil))) ih
theorem dtR_runs {rs : List Run} : (dtR rs).runs = rs := by
  show (rs.map fun r => Dat.tup [.str r.1, .int r.2]).map Dat.rr = rs
  rw [List.map_map]
  exact List.map_id _
theorem dtR_fits {rs : List Run} (ok : SeqOk rs) : (dtR rs).fits := by
  intro l e
  cases e
  refine ⟨by rw [List.length_map]; have := ok.1; omega, fun x hx => ?_⟩
  obtain ⟨r, hr, rfl⟩ := List.mem_map.mp hx
  intro x y e
  cases e
  have := (ok.2.1 r hr).1.2.1
  show r.1.length ≤ 4000
  omega
theorem dtR_key {rs : List Run} {i : Nat} {r : Run} (h : rs[i]? = some r) : keyAt (rs.map fun r => Dat.tup [.str r.1, .int r.2]) i = r.1 := by
  unfold keyAt
  rw [List.getElem?_map, h]
  rfl
theorem dtR_seq {rs : List Run} (ok : SeqOk rs) : (dtR rs).seq = true := by
  obtain ⟨l4, h2, h3⟩ := ok
  show (decide (((rs.map fun r => Dat.tup [.str r.1, .int r.2]).length : Int) ≤ 400) && ((rs.map fun r => Dat.tup [.str r.1, .int r.2]).all Dat.run && ((List.range ((rs.map fun r => Dat.tup [.str r.1, .int r.2]).length - 1)).map (stepB (rs.map fun r => Dat.tup [.str r.1, .int r.2]))).all id)) = true
  rw [Bool.and_eq_true, Bool.and_eq_true]
  refine ⟨decide_eq_true (by rw [List.length_map]; omega), ?_, ?_⟩
  · rw [List.all_map, List.all_eq_true]
    intro r hr
    obtain ⟨a, b, c⟩ := h2 r hr
    show (kindB r.1 && decide (1 ≤ r.2 ∧ r.2 ≤ 1000000000000000000000000000000)) = true
    rw [kindB_oK a, decide_eq_true ⟨b, c⟩]
    rfl
  · rw [List.all_map, List.all_eq_true]
    intro i hi
    rw [List.mem_range, List.length_map] at hi
    have e1 : rs[i]? = some (rs[i]'(by omega)) := List.getElem?_eq_getElem _
    have e2 : rs[i + 1]? = some (rs[i + 1]'(by omega)) := List.getElem?_eq_getElem _
    show stepB _ i = true
    unfold stepB
    rw [dtR_key e1, dtR_key e2, decide_eq_false (fun z => h3 i _ _ e1 e2 (V.str.inj z))]
    rfl
theorem itR_snoc (l : List Run) (r : Run) : itR (l ++ [r]) = itR l ++ List.replicate r.2.toNat r.1 := by
  unfold itR
  rw [List.flatMap_append]
  simp
theorem passX0 {X : Cx} {P : Program} {w : World} : Passes (L2.CX P w) X E0 := fun _ _ _ _ _ _ _ h => by
  obtain ⟨_, _, _, _, _, _, _, _, _, _, _, _, z⟩ := h
  exact z.elim
theorem pe_callX0 {X : Cx} {k : Nat} {x : Str} {ps : List Str} {sp : Sp} {p pos : Pos} {e : Expr} {es : List Expr} {t : TA} (G : HasX X.prog X.w X.K X.mg X.base k x ps sp) (hr : Room k X.A) (hg : Gl X x) (ha : PA X (e :: es) t)
    (hdb : (x == ("__debug__" : Str)) = false := by decide) (he : starEach (e :: es) X.env = (false, eval e X.env) :: starEach es X.env := by rfl) (hpl : (backTo pos (starEach es X.env)).any (·.1) = false := by rfl) :
    PE X (.Call (.Name x p) (e :: es) [] pos) (tCall sp [] E0 t) := by
  obtain ⟨f, fd, g, kp, b, F⟩ := G
  exact pe_call F hr hg g kp b .nil passX0 ha hdb he hpl
section
variable {P : Program} {w : World} {K : PySem.W.Frag} {mg : Str → Option Value} {base : Heap}
/-! counts_of: slots 0:sequence 1:totals 2:kind 3:count -/
abbrev s_counts_of : Stmt := topS 38
theorem sc_counts_of : FnScope ["sequence", "totals", "kind", "count"] ["sequence"] (defScope s_counts_of) := ⟨rfl, rfl, rfl, by decide +kernel, rfl, by decide +kernel, by decide +kernel⟩
def sp_counts_of : Sp := fun vs H Q _ => ∃ (av : Addr) (rs : List Run), vs = [.ref av] ∧ Runs H av rs ∧ SeqOk rs ∧ ∀ H' p out, Same H H' → H p = none → Runs H' p out → CT out (itR rs) → out.Pairwise (fun x y => UPS.lexS y x = false) → out.length ≤ rs.length → Q (.ref p) H'
theorem ok_counts_of (D : Df K mg "counts_of" s_counts_of) (T : Tx mg) {CS : Addr} (G_checked_runs : HasX P w K mg base 5 "checked_runs" ["sequence"] (sp_checked_runs CS)) : Has P w K mg base 6 "counts_of" ["sequence"] sp_counts_of := by
  refine has_of D sc_counts_of (fun _ _ _ _ _ _ us hl => match us, hl with | [_], _ => rfl) (fun vs H Q E h => ?_) (fun f cdv A outer s₀ H vs Q E hr h => ?_)
  · obtain ⟨a, R, rfl, _⟩ := h
    rfl
  · obtain ⟨av, rs, rfl, hR, ok, q⟩ := h
    have l4 := ok.1
    refine ⟨_, (pss_cons (ps_set (i := 1) sc_counts_of.nd rfl (by first | exact Or.inl rfl | exact Or.inr rfl) pe_dnewK)
    (pss_cons (ps_for PassesOwn.never rfl (pi_list (pe_callX0 G_checked_runs (hr.mono (by omega)) (by rfl) (pa_cons (pv 0) pa_nil))) (pg_tup rfl (pgs_cons (pg_name (i := 2) sc_counts_of.nd rfl (by first | exact Or.inl rfl | exact Or.inr rfl)) (pgs_cons (pg_name (i := 3) sc_counts_of.nd rfl (by first | exact Or.inl rfl | exact Or.inr rfl)) pgs_nil)))
      (pss_one (ps_dput (hu_of hr) (pv 1) (pv 2) (pe_op op_add (pe_dget2 (hu_of hr) (pv 1) (pv 2) pe_int ⟨by rfl, by rfl, by rfl, by rfl⟩) (pv 3)) rfl)))
    (pss_one (ps_ret (pe_callB cr_sortedR (by rfl) T.n_sorted (by decide +kernel) (pa_cons (LiI.pe_listItems (by rfl) (pv 1) (by rfl) T.n_list (by decide +kernel)) pa_nil)))))), ?_⟩
    refine fun d nd => ⟨_, rfl, .ref av, dtR rs, rfl, (rp_runs hR).same (same_upd nd), dtR_fits ok, fun cs H1 p s1 np hp => ?_, fun cs => ?_⟩
    rotate_left
    · rw [dtR_seq ok] at cs
      cases cs
    rw [dtR_runs] at hp
    obtain ⟨xs, hx, hpr⟩ := hp
    have lx : xs.length = rs.length := Paired.len hpr
    have sd := same_upd (o := .dK []) nd
    have hd1 : H1 d = some (.dK []) := s1 _ _ upd_same
    have pd : p ≠ d := fun z => by rw [z, hd1] at hx; cases hx
    refine ⟨p, rfl, ⟨xs, .of hx⟩, for_list (K := K) (a := p) (xs := xs) (fun i σ H' => ∃ y2 y3 ks, σ = [some (.ref av), some (.ref d), y2, y3] ∧ But d H1 H' ∧ H' d = some (.dK (ks.map entK)) ∧ CT ks (itR (rs.take i)) ∧ ks.length ≤ i) ⟨none, none, [], rfl, But.refl, hd1, CT.nil, Nat.le_refl _⟩ (fun i σ H' _ hP => ?_) (fun i x σ H2 ex hP => ?_) (fun σ H2 hP => ?_)⟩
    · obtain ⟨_, _, _, _, bt, _⟩ := hP
      exact .of (bt _ _ pd hx)
    · obtain ⟨y2, y3, ks, rfl, bt, hd, ct, lk⟩ := hP
      obtain ⟨r, er, ⟨t, rfl, ht⟩⟩ := Paired.at hpr ex
      have ht2 := bt _ _ (ne_of ht hd1 (by intro z; cases z)) ht
      have hi : i < xs.length := (List.getElem?_eq_some_iff.mp ex).1
      have c1 := (ok.2.1 r (List.mem_of_getElem? er)).2.1
      refine ⟨t, _, rfl, .of ht2, rfl, _, _, rfl, _, _, rfl, rfl, ?_⟩
      refine ⟨_, rfl, d, rfl, .inl ⟨_, .inl hd⟩, _, rfl, _, DGet.k (k := Sum.inr r.1) hd, ?_⟩
      rw [ct.get]
      obtain ⟨ks', e1, ct', l'⟩ := ct.put r.1 r.2.toNat (by omega)
      rw [show ((r.2.toNat : Nat) : Int) = r.2 by omega] at e1
      refine ⟨_, rfl, _, _, rfl, rfl, _, rfl, _, rfl, d, _, rfl, DPut.k (k := Sum.inr r.1) hd (by rw [List.length_map]; exact small (by omega)), ?_⟩
      refine ⟨_, _, ks', rfl, bt.trans but_upd, ?_, ?_, by omega⟩
      · rw [upd_same]
        exact congrArg (fun z => some (HO.dK z)) e1
      · rw [take_snoc er, itR_snoc]
        exact ct'
    · obtain ⟨y2, y3, ks, rfl, bt, hd, ct, lk⟩ := hP
      rw [lx, List.take_length] at ct
      have sA : Same H H2 := Same.butB nd (sd.trans s1) bt
      refine ⟨_, rfl, d, _, rfl, hd, fun H3 l ts k1 k2 _ _ k5 k6 => ?_⟩
      have s3 : Same H2 H3 := k1
      have rn : Runs H3 l ks := ⟨_, k5, ?_⟩
      · refine ⟨l, ks, rfl, rn, fun H4 l4 out s4 n4 hl pm so => q H4 l4 out (sA.trans (s3.trans s4)) ((sA.trans s3).free n4) hl (ct.perm pm) so ?_⟩
        rw [pm.length_eq]
        omega
      · have g : ∀ {as : List Addr} {es : List Run}, Paired (fun (t : Addr) (q : L2.Key × V) => H3 t = some (.tup [kV q.1, q.2])) as (es.map entK) → Paired (RunV H3) (as.map V.ref) es := by
          intro as es h
          induction es generalizing as with
          | nil => cases h; exact .nil
          | cons e u ih =>
            cases h with
            | cons h1 h2 => exact .cons ⟨_, rfl, h1⟩ (ih h2)
        exact g k6
end
end UP

set_option Elab.async false
set_option linter.all false
set_option maxRecDepth 100000
set_option maxHeartbeats 4000000
set_option pp.maxSteps 500
namespace UP
open PySem PySem.Spec PyProof.Rows L2
/-! ### the growth of a sequence -/
def cntK (rs : List Run) (k : Str) : Int := ((rs.filter fun r => decide (r.1 = k)).map (·.2)).sum
def majK (rs : List Run) (k : Str) : Bool := decide (lenR rs < 2 * cntK rs k)
def grR (rs : List Run) : Option Run := ((rs.map (·.1)).find? (majK rs)).map fun k => (k, 2 * cntK rs k - lenR rs)
theorem cntK_cons (r : Run) (l : List Run) (k : Str) : cntK (r :: l) k = (if r.1 = k then r.2 else 0) + cntK l k := by
  unfold cntK
  rw [List.filter_cons]
  by_cases c : r.1 = k
  · rw [if_pos (decide_eq_true c), if_pos c]
    rfl
  · rw [if_neg (by rw [decide_eq_false c]; decide), if_neg c]
    omega
theorem cntK_it : ∀ {rs : List Run} (k : Str), (∀ r ∈ rs, 1 ≤ r.2) → cntK rs k = (((itR rs).count k : Nat) : Int)
  | [], k, _ => rfl
  | r :: l, k, h => by
    have h1 := h r (List.mem_cons_self ..)
    rw [cntK_cons, cntK_it k fun x hx => h x (List.mem_cons_of_mem _ hx)]
    show _ = (((List.replicate r.2.toNat r.1 ++ itR l).count k : Nat) : Int)
    rw [List.count_append, List.count_replicate]
    by_cases c : r.1 = k
    · rw [if_pos c, if_pos (by rw [c]; exact beq_self_eq_true k)]
      omega
    · rw [if_neg c, if_neg (fun z => c (eq_of_beq z))]
      omega
theorem cntK_pos : ∀ {rs : List Run} {k : Str}, (∀ r ∈ rs, 1 ≤ r.2) → 0 ≤ cntK rs k
  | [], k, _ => Int.le_refl _
  | r :: l, k, h => by
    have h1 := h r (List.mem_cons_self ..)
    have h2 := cntK_pos (rs := l) (k := k) fun x hx => h x (List.mem_cons_of_mem _ hx)
    rw [cntK_cons]
    split <;> omega
theorem cntK_two : ∀ {rs : List Run} {k j : Str}, k ≠ j → (∀ r ∈ rs, 1 ≤ r.2) → cntK rs k + cntK rs j ≤ lenR rs
  | [], k, j, _, _ => Int.le_refl _
  | r :: l, k, j, n, h => by
    have h1 := h r (List.mem_cons_self ..)
    have h2 := cntK_two (rs := l) n fun x hx => h x (List.mem_cons_of_mem _ hx)
    rw [cntK_cons, cntK_cons, lenR_cons]
    by_cases c : r.1 = k
    · rw [if_pos c, if_neg (fun z => n (c.symm.trans z))]
      omega
    · rw [if_neg c]
      split <;> omega
theorem cntK_le {rs : List Run} {k : Str} (h : ∀ r ∈ rs, 1 ≤ r.2) : cntK rs k ≤ lenR rs := by
  induction rs with
  | nil => exact Int.le_refl _
  | cons r l ih =>
    have h1 := h r (List.mem_cons_self ..)
    have h2 := ih fun x hx => h x (List.mem_cons_of_mem _ hx)
    rw [cntK_cons, lenR_cons]
    split <;> omega
theorem kinds_it : ∀ {rs : List Run} {k : Str}, (∀ r ∈ rs, 1 ≤ r.2) → (k ∈ itR rs ↔ k ∈ rs.map (·.1))
  | [], k, _ => Iff.rfl
  | r :: l, k, h => by
    have h1 := h r (List.mem_cons_self ..)
    have h2 := kinds_it (rs := l) (k := k) fun x hx => h x (List.mem_cons_of_mem _ hx)
    show k ∈ List.replicate r.2.toNat r.1 ++ itR l ↔ k ∈ r.1 :: l.map (·.1)
    rw [List.mem_append, List.mem_replicate, h2, List.mem_cons]
    exact ⟨fun z => z.elim (fun z => .inl z.2) .inr, fun z => z.elim (fun z => .inl ⟨by omega, z⟩) .inr⟩
theorem gr_some {rs : List Run} {k : Str} (h : ∀ r ∈ rs, 1 ≤ r.2) (hk : k ∈ rs.map (·.1)) (m : lenR rs < 2 * cntK rs k) : grR rs = some (k, 2 * cntK rs k - lenR rs) := by
  unfold grR
  cases e : (rs.map (·.1)).find? (majK rs) with
  | none => exact absurd (decide_eq_true m) (by simpa [majK] using List.find?_eq_none.mp e k hk)
  | some j =>
    have mj := List.find?_some e
    have mj : lenR rs < 2 * cntK rs j := of_decide_eq_true mj
    have ej : j = k := by
      refine Classical.byContradiction fun n => ?_
      have := cntK_two (rs := rs) n h
      omega
    rw [ej]
    rfl
theorem gr_none {rs : List Run} (h : ∀ k ∈ rs.map (·.1), ¬ lenR rs < 2 * cntK rs k) : grR rs = none := by
  unfold grR
  rw [List.find?_eq_none.mpr fun k hk => by simpa [majK] using h k hk]
  rfl
theorem gr_is {rs : List Run} {g : Run} (h : grR rs = some g) : g.1 ∈ rs.map (·.1) ∧ g.2 = 2 * cntK rs g.1 - lenR rs ∧ 1 ≤ g.2 := by
  unfold grR at h
  cases e : (rs.map (·.1)).find? (majK rs) with
  | none => rw [e] at h; cases h
  | some j =>
    rw [e] at h
    cases h
    have mj := List.find?_some e
    have mj : lenR rs < 2 * cntK rs j := of_decide_eq_true mj
    exact ⟨List.mem_of_find?_eq_some e, rfl, by show 1 ≤ 2 * cntK rs j - lenR rs; omega⟩
theorem mul2 {x : Int} (h0 : 0 ≤ x) (h : x ≤ 400) : CMulW 2 x := wide_mul (a := 2) (b := 10) (by decide) (by omega) (by decide) (by decide) (by decide)
def fallR (rs : List Run) (k : Str) : Int := lenR rs - 2 * cntK rs k
def frR (rs : List Run) : Option Run → Int
  | none => 0
  | some r => if r.2 < lenR rs ∨ fallR rs r.1 ≤ 0 then 0 else (r.2 - lenR rs) / fallR rs r.1 + 1
def fnR (rs : List Run) (st : Option Run) (n : Int) : Option Run := if n = 0 then st else match st with
  | none => none
  | some r => withR r.1 (r.2 - n * fallR rs r.1)
def gfB (rs : List Run) (g st : Option Run) : Bool := match g, st with
  | some g, some r => decide (r.1 = g.1) && decide (lenR rs ≤ r.2)
  | _, _ => false
section
variable {P : Program} {w : World} {K : PySem.W.Frag} {mg : Str → Option Value} {base : Heap}
/-! growth_in: slots 0:runs 1:length 2:kind 3:count -/
abbrev s_growth_in : Stmt := topS 46
theorem sc_growth_in : FnScope ["runs", "length", "kind", "count"] ["runs"] (defScope s_growth_in) := ⟨rfl, rfl, rfl, by decide +kernel, rfl, by decide +kernel, by decide +kernel⟩
def sp_growth_in : Sp := fun vs H Q _ => ∃ (a : Addr) (rs : List Run), vs = [.ref a] ∧ Runs H a rs ∧ SeqOk rs ∧ lenR rs ≤ 400 ∧ ∀ H' v', Same H H' → StV H' v' (grR rs) → Q v' H'
theorem ok_growth_in (D : Df K mg "growth_in" s_growth_in) (G_length_of : Has P w K mg base 1 "length_of" ["runs"] sp_length_of) (G_counts_of : Has P w K mg base 6 "counts_of" ["sequence"] sp_counts_of) : Has P w K mg base 7 "growth_in" ["runs"] sp_growth_in := by
  refine has_of D sc_growth_in (fun _ _ _ _ _ _ us hl => match us, hl with | [_], _ => rfl) (fun vs H Q E h => ?_) (fun f cdv A outer s₀ H vs Q E hr h => ?_)
  · obtain ⟨_, _, rfl, _⟩ := h
    rfl
  · obtain ⟨a, rs, rfl, hR, ok, l400, q⟩ := h
    have l4 := ok.1
    have pos : ∀ r ∈ rs, 1 ≤ r.2 := fun r hr => (ok.2.1 r hr).2.1
    refine ⟨_, (pss_cons (ps_set (i := 1) sc_growth_in.nd rfl (by first | exact Or.inl rfl | exact Or.inr rfl) (pe_callH G_length_of (hr.mono (by omega)) (by rfl) (pa_cons (pv 0) pa_nil)))
    (pss_cons (ps_for PassesOwn.never rfl (pi_list (pe_callH G_counts_of (hr.mono (by omega)) (by rfl) (pa_cons (pv 0) pa_nil))) (pg_tup rfl (pgs_cons (pg_name (i := 2) sc_growth_in.nd rfl (by first | exact Or.inl rfl | exact Or.inr rfl)) (pgs_cons (pg_name (i := 3) sc_growth_in.nd rfl (by first | exact Or.inl rfl | exact Or.inr rfl)) pgs_nil)))
      (pss_one (ps_if (pt_cmpR op_gt (pe_op op_mulW pe_int (pv 3)) (pv 1) (nomark _)) (pss_one (ps_ret (pe_tup (pa_cons (pv 2) (pa_cons (pe_op op_sub (pe_op op_mulW pe_int (pv 3)) (pv 1)) pa_nil))))) pss_nil)))
    (pss_one (ps_ret pe_non)))), ?_⟩
    refine ⟨_, rfl, a, rs, rfl, hR, by omega, fun H1 s1 => ?_⟩
    refine ⟨_, rfl, a, rs, rfl, hR.same s1, ok, fun H2 p out s2 n2 hp ct so lo => ?_⟩
    obtain ⟨xs, hx, hpr⟩ := hp
    have sA := s1.trans s2
    have val : ∀ e ∈ out, e.2 = cntK rs e.1 := fun e he => by rw [cntK_it e.1 pos]; exact ct.val e he
    have cb : ∀ r ∈ out, 0 ≤ r.2 ∧ r.2 ≤ 400 := fun r hr => by
      rw [val r hr]
      have h1 := cntK_pos (k := r.1) pos
      have h2 := cntK_le (k := r.1) pos
      omega
    refine ⟨p, rfl, ⟨xs, .of hx⟩, for_list (K := K) (a := p) (xs := xs) (fun i σ H' => ∃ y2 y3, σ = [some (.ref a), some (.int (lenR rs)), y2, y3] ∧ Same H2 H' ∧ ∀ (j : Nat) (e : Run), j < i → out[j]? = some e → ¬ lenR rs < 2 * e.2) ⟨none, none, rfl, Same.refl _, fun j e hj => absurd hj (Nat.not_lt_zero _)⟩ (fun i σ H' _ hP => ?_) (fun i x σ H3 ex hP => ?_) (fun σ H3 hP => ?_)⟩
    · obtain ⟨_, _, _, sm, _⟩ := hP
      exact .of (sm _ _ hx)
    · obtain ⟨y2, y3, rfl, sm, no⟩ := hP
      obtain ⟨r, er, hr1⟩ := Paired.at hpr ex
      obtain ⟨t, rfl, ht⟩ := RunV.same sm hr1
      have hm := List.mem_of_getElem? er
      refine ⟨t, _, rfl, .of ht, rfl, _, _, rfl, _, _, rfl, rfl, ?_⟩
      refine ⟨_, rfl, _, _, rfl, rfl, mul2 (cb _ hm).1 (cb _ hm).2, _, rfl, _, _, rfl, rfl, _, rfl, ?_⟩
      by_cases c : lenR rs < 2 * r.2
      · refine iteP (decide_eq_true c) ?_
        refine ⟨_, rfl, _, rfl, _, _, rfl, rfl, mul2 (cb _ hm).1 (cb _ hm).2, _, rfl, _, _, rfl, rfl, (by show 2 ≤ sizeLine; decide), fun n nn => ?_⟩
        have hk : r.1 ∈ rs.map (·.1) := (kinds_it pos).mp ((ct.cov r.1).mpr (List.mem_map.mpr ⟨r, hm, rfl⟩))
        rw [val r hm] at c
        have q := fun o => q (upd H3 n o) (.ref n) ((sA.trans sm).trans (same_upd nn))
        simp only [gr_some pos hk c] at q
        rw [val r hm]
        exact q _ ⟨n, rfl, upd_same⟩
      · refine iteN (decide_eq_false c) ⟨_, _, rfl, sm, fun j e hj ee => ?_⟩
        by_cases z : j = i
        · rw [z, er] at ee
          cases ee
          exact c
        · exact no j e (by omega) ee
    · obtain ⟨y2, y3, rfl, sm, no⟩ := hP
      have lx : xs.length = out.length := Paired.len hpr
      have e0 : grR rs = none := gr_none fun k hk => by
        obtain ⟨e, he, ee⟩ := List.mem_map.mp ((ct.cov k).mp ((kinds_it pos).mpr hk))
        obtain ⟨j, hj⟩ := List.getElem?_of_mem he
        have := no j e (by rw [lx]; exact (List.getElem?_eq_some_iff.mp hj).1) hj
        rw [val e he, ee] at this
        exact this
      have q := q _ .non (sA.trans sm)
      rw [e0] at q
      exact q rfl
/-! fall_of: slots 0:runs 1:kind 2:each 3:count -/
abbrev s_fall_of : Stmt := topS 47
theorem sc_fall_of : FnScope ["runs", "kind", "each", "count"] ["runs", "kind"] (defScope s_fall_of) := ⟨rfl, rfl, rfl, by decide +kernel, rfl, by decide +kernel, by decide +kernel⟩
def sp_fall_of : Sp := fun vs H Q _ => ∃ (a : Addr) (rs : List Run) (k : Str), vs = [.ref a, .str k] ∧ Runs H a rs ∧ SeqOk rs ∧ lenR rs ≤ 400 ∧ ∀ H', Same H H' → Q (.int (fallR rs k)) H'
theorem ok_fall_of (D : Df K mg "fall_of" s_fall_of) (T : Tx mg) (G_length_of : Has P w K mg base 1 "length_of" ["runs"] sp_length_of) : Has P w K mg base 2 "fall_of" ["runs", "kind"] sp_fall_of := by
  refine has_of D sc_fall_of (fun _ _ _ _ _ _ us hl => match us, hl with | [_, _], _ => rfl) (fun vs H Q E h => ?_) (fun f cdv A outer s₀ H vs Q E hr h => ?_)
  · obtain ⟨_, _, _, rfl, _⟩ := h
    rfl
  · obtain ⟨a, rs, k, rfl, hR, ok, l400, q⟩ := h
    have l4 := ok.1
    have pos : ∀ r ∈ rs, 1 ≤ r.2 := fun r hr => (ok.2.1 r hr).2.1
    refine ⟨_, (pss_one (ps_ret (pe_op op_sub (pe_callH G_length_of (hr.mono (by omega)) (by rfl) (pa_cons (pv 0) pa_nil)) (pe_op op_mulW pe_int (pe_callB (cr_sum rfl) (by rfl) T.n_sum (by decide +kernel) (pa_cons (pe_lc (own := [("each", 2), ("count", 3)]) rfl sc_fall_of.nd (pi_list (pv 0)) (blkOk_by (N := ["runs", "kind", "each", "count"]) (sc := defScope s_fall_of) (by decide +kernel)) (fun _ _ _ _ _ => (pg_tupK (K := K) (n := 2) rfl rfl (pgs_cons (pg_name (i := 2) sc_fall_of.nd rfl (by first | exact Or.inl rfl | exact Or.inr rfl)) (pgs_cons (pg_name (i := 3) sc_fall_of.nd rfl (by first | exact Or.inl rfl | exact Or.inr rfl)) pgs_nil)))) (fun _ _ _ _ _ => pts_one (pt_cmpR op_eq (pv 2) (pv 1) (nomark _))) (fun _ _ _ _ _ => (pv 3))) pa_nil)))))), ?_⟩
    refine ⟨_, rfl, a, rs, rfl, hR, by omega, fun H1 s1 => ?_⟩
    obtain ⟨xs, hx, hp⟩ := hR.same s1
    have lx : xs.length = rs.length := Paired.len hp
    refine ⟨_, rfl, a, rfl, ⟨xs, .of hx⟩, fun L nL => lc_list (K := K) (a := a) (xs := xs) (fun i H' => Same H1 H' ∧ H' L = some (.lst ((((rs.take i).filter fun r => decide (r.1 = k)).map (·.2)).map V.int))) ⟨same_upd nL, upd_same⟩ (fun i H' _ p => .of (p.1 _ _ hx)) (fun i x H2 ex p => ?_) (fun H2 p => ?_)⟩
    · obtain ⟨sm, hL⟩ := p
      obtain ⟨r, er, hr1⟩ := Paired.at hp ex
      have hi : i < xs.length := (List.getElem?_eq_some_iff.mp ex).1
      obtain ⟨t, rfl, ht⟩ := RunV.same sm hr1
      have ln := List.length_filter_le (fun r : Run => decide (r.1 = k)) (rs.take i)
      rw [List.length_take] at ln
      refine ⟨t, _, rfl, .of ht, rfl, _, _, rfl, _, _, rfl, rfl, rfl, _, rfl, _, rfl, rfl, _, rfl, ite2 (fun e => ?_) (fun e => ?_)⟩
      · have e : r.1 = k := V.str.inj (of_decide_eq_true e)
        refine ⟨_, rfl, _, hL, ?_, same_grow nL sm, ?_⟩
        · rw [List.length_map, List.length_map]
          exact small (by omega)
        · rw [upd_same, take_snoc er, List.filter_append, List.filter_cons, if_pos (decide_eq_true e), List.map_append, List.map_append]
          rfl
      · have e : ¬ r.1 = k := fun z => e (decide_eq_true (by rw [z]))
        refine ⟨sm, ?_⟩
        rw [take_snoc er, List.filter_append, List.filter_cons, if_neg (by rw [decide_eq_false e]; decide), List.filter_nil, List.append_nil]
        exact hL
    · have e0 := p.2
      rw [lx, List.take_length] at e0
      have c1 := cntK_pos (k := k) pos
      have c2 := cntK_le (k := k) pos
      exact ⟨L, _, rfl, .of e0, _, _, rfl, rfl, mul2 (x := cntK rs k) c1 (by omega), _, _, rfl, rfl, q H2 (s1.trans p.1)⟩
end
end UP

set_option Elab.async false
set_option linter.all false
set_option maxRecDepth 100000
set_option maxHeartbeats 4000000
set_option pp.maxSteps 500
namespace UP
open PySem PySem.Spec PyProof.Rows L2
/-- a state whose number may be multiplied -/
def StW (st : Option Run) : Prop := ∀ r, st = some r → 1 ≤ r.2 ∧ r.2.natAbs < 2 ^ 400000
section
variable {P : Program} {w : World} {K : PySem.W.Frag} {mg : Str → Option Value} {base : Heap}
/-! falling_rounds: slots 0:runs 1:state -/
abbrev s_falling_rounds : Stmt := topS 48
theorem sc_falling_rounds : FnScope ["runs", "state"] ["runs", "state"] (defScope s_falling_rounds) := ⟨rfl, rfl, rfl, by decide +kernel, rfl, by decide +kernel, by decide +kernel⟩
def sp_falling_rounds : Sp := fun vs H Q _ => ∃ (a : Addr) (rs : List Run) (v : V) (st : Option Run), vs = [.ref a, v] ∧ Runs H a rs ∧ SeqOk rs ∧ lenR rs ≤ 400 ∧ StV H v st ∧ ∀ H', Same H H' → Q (.int (frR rs st)) H'
theorem ok_falling_rounds (D : Df K mg "falling_rounds" s_falling_rounds) (G_length_of : Has P w K mg base 1 "length_of" ["runs"] sp_length_of) (G_fall_of : Has P w K mg base 2 "fall_of" ["runs", "kind"] sp_fall_of) : Has P w K mg base 3 "falling_rounds" ["runs", "state"] sp_falling_rounds := by
  refine has_of D sc_falling_rounds (fun _ _ _ _ _ _ us hl => match us, hl with | [_, _], _ => rfl) (fun vs H Q E h => ?_) (fun f cdv A outer s₀ H vs Q E hr h => ?_)
  · obtain ⟨_, _, _, _, rfl, _⟩ := h
    rfl
  · obtain ⟨a, rs, v, st, rfl, hR, ok, l400, hv, q⟩ := h
    have l4 := ok.1
    have pos : ∀ r ∈ rs, 1 ≤ r.2 := fun r hr => (ok.2.1 r hr).2.1
    refine ⟨_, (pss_cons (ps_if (PW.pt (pw_or (pt_cmpR op_isN (pv 1) pe_non (nomark _)) (pw_or (pt_cmpR op_lt (pe_ix ix_tup (pv 1) pe_int (fun _ _ => rfl)) (pe_callH G_length_of (hr.mono (by omega)) (by rfl) (pa_cons (pv 0) pa_nil)) (nomark _)) (pw_or1 (pt_cmpR op_le (pe_callH G_fall_of (hr.mono (by omega)) (by rfl) (pa_cons (pv 0) (pa_cons (pe_ix ix_tup (pv 1) pe_int (fun _ _ => rfl)) pa_nil))) pe_int (nomark _)))))) (pss_one (ps_ret pe_int)) pss_nil)
    (pss_one (ps_ret (pe_op op_add (pe_op op_fdivW (pe_op op_sub (pe_ix ix_tup (pv 1) pe_int (fun _ _ => rfl)) (pe_callH G_length_of (hr.mono (by omega)) (by rfl) (pa_cons (pv 0) pa_nil))) (pe_callH G_fall_of (hr.mono (by omega)) (by rfl) (pa_cons (pv 0) (pa_cons (pe_ix ix_tup (pv 1) pe_int (fun _ _ => rfl)) pa_nil)))) pe_int)))), ?_⟩
    cases st with
    | none =>
      cases hv
      exact ⟨_, rfl, rfl, _, rfl, iteP rfl (iteP rfl (q _ (Same.refl _)))⟩
    | some r =>
      obtain ⟨t, rfl, ht⟩ := hv
      refine ⟨_, rfl, rfl, _, rfl, iteN rfl ?_⟩
      refine ⟨_, rfl, t, _, 1, _, rfl, rfl, .of ht, at1, _, rfl, a, rs, rfl, hR, by omega, fun H1 s1 => ⟨_, _, rfl, rfl, _, rfl, ?_⟩⟩
      by_cases c1 : r.2 < lenR rs
      · rw [show frR rs (some r) = 0 from if_pos (.inl c1)] at q
        exact iteP (decide_eq_true c1) (iteP rfl (q _ s1))
      · refine iteN (decide_eq_false c1) ?_
        refine ⟨_, rfl, _, rfl, t, _, 0, _, rfl, rfl, .of (s1 _ _ ht), at0, a, rs, r.1, rfl, hR.same s1, ok, l400, fun H2 s2 => ⟨_, _, rfl, rfl, _, rfl, ?_⟩⟩
        by_cases c2 : fallR rs r.1 ≤ 0
        · rw [show frR rs (some r) = 0 from if_pos (.inr c2)] at q
          exact iteP (decide_eq_true c2) (q _ (s1.trans s2))
        · rw [show frR rs (some r) = (r.2 - lenR rs) / fallR rs r.1 + 1 from if_neg (fun z => z.elim c1 c2)] at q
          refine iteN (decide_eq_false c2) ?_
          have s12 := s1.trans s2
          have fb : (fallR rs r.1).natAbs < 2 ^ 10 := by
            have c3 := cntK_pos (k := r.1) pos
            have e : fallR rs r.1 = lenR rs - 2 * cntK rs r.1 := rfl
            omega
          refine ⟨_, rfl, t, _, 1, _, rfl, rfl, .of (s12 _ _ ht), at1, _, rfl, a, rs, rfl, hR.same s12, by omega, fun H3 s3 => ⟨_, _, rfl, rfl, ?_⟩⟩
          have s13 := s12.trans s3
          refine ⟨_, rfl, _, rfl, t, _, 0, _, rfl, rfl, .of (s13 _ _ ht), at0, a, rs, r.1, rfl, hR.same s13, ok, l400, fun H4 s4 => ⟨_, _, rfl, rfl, wide_div (b := 10) (by omega) fb (by decide) (by decide), _, _, rfl, rfl, q _ (s13.trans s4)⟩⟩
/-! fallen: slots 0:runs 1:state 2:rounds -/
abbrev s_fallen : Stmt := topS 49
theorem sc_fallen : FnScope ["runs", "state", "rounds"] ["runs", "state", "rounds"] (defScope s_fallen) := ⟨rfl, rfl, rfl, by decide +kernel, rfl, by decide +kernel, by decide +kernel⟩
def sp_fallen : Sp := fun vs H Q _ => ∃ (a : Addr) (rs : List Run) (v : V) (st : Option Run) (n : Int), vs = [.ref a, v, .int n] ∧ Runs H a rs ∧ SeqOk rs ∧ lenR rs ≤ 400 ∧ StV H v st ∧ (n ≠ 0 → st ≠ none) ∧ n.natAbs < 2 ^ 500000 ∧ ∀ H' v', Same H H' → StV H' v' (fnR rs st n) → Q v' H'
theorem ok_fallen (D : Df K mg "fallen" s_fallen) (G_state_with : Has P w K mg base 1 "state_with" ["kind", "number"] sp_state_with) (G_fall_of : Has P w K mg base 2 "fall_of" ["runs", "kind"] sp_fall_of) : Has P w K mg base 3 "fallen" ["runs", "state", "rounds"] sp_fallen := by
  refine has_of D sc_fallen (fun _ _ _ _ _ _ us hl => match us, hl with | [_, _, _], _ => rfl) (fun vs H Q E h => ?_) (fun f cdv A outer s₀ H vs Q E hr h => ?_)
  · obtain ⟨_, _, _, _, _, rfl, _⟩ := h
    rfl
  · obtain ⟨a, rs, v, st, n, rfl, hR, ok, l400, hv, ne, nb, q⟩ := h
    have l4 := ok.1
    have pos : ∀ r ∈ rs, 1 ≤ r.2 := fun r hr => (ok.2.1 r hr).2.1
    refine ⟨_, (pss_cons (ps_if (pt_cmpR op_eq (pv 2) pe_int (nomark _)) (pss_one (ps_ret (pv 1))) pss_nil)
    (pss_one (ps_ret (pe_callH G_state_with (hr.mono (by omega)) (by rfl) (pa_cons (pe_ix ix_tup (pv 1) pe_int (fun _ _ => rfl)) (pa_cons (pe_op op_sub (pe_ix ix_tup (pv 1) pe_int (fun _ _ => rfl)) (pe_op op_mulW (pv 2) (pe_callH G_fall_of (hr.mono (by omega)) (by rfl) (pa_cons (pv 0) (pa_cons (pe_ix ix_tup (pv 1) pe_int (fun _ _ => rfl)) pa_nil))))) pa_nil)))))), ?_⟩
    refine ⟨_, rfl, rfl, _, rfl, ?_⟩
    by_cases e : n = 0
    · rw [show fnR rs st n = st from if_pos e] at q
      exact iteP (decide_eq_true (by rw [e])) ⟨_, rfl, q _ _ (Same.refl _) hv⟩
    · refine iteN (decide_eq_false fun z => e (V.int.inj z)) ?_
      cases st with
      | none => exact absurd rfl (ne e)
      | some r =>
        rw [show fnR rs (some r) n = withR r.1 (r.2 - n * fallR rs r.1) from if_neg e] at q
        obtain ⟨t, rfl, ht⟩ := hv
        have fb : (fallR rs r.1).natAbs < 2 ^ 10 := by
          have c3 := cntK_pos (k := r.1) pos
          have c4 := cntK_le (k := r.1) pos
          have e : fallR rs r.1 = lenR rs - 2 * cntK rs r.1 := rfl
          omega
        refine ⟨_, rfl, t, _, 0, _, rfl, rfl, .of ht, at0, _, rfl, t, _, 1, _, rfl, rfl, .of ht, at1, _, rfl, _, rfl, _, rfl, t, _, 0, _, rfl, rfl, .of ht, at0, a, rs, r.1, rfl, hR, ok, l400, fun H1 s1 => ?_⟩
        refine ⟨_, _, rfl, rfl, wide_mul nb fb (by decide) (by decide) (by decide), _, _, rfl, rfl, _, _, rfl, fun H2 v2 s2 h2 => q _ _ (s1.trans s2) h2⟩
/-! grows_for_good: slots 0:runs 1:growth 2:state -/
abbrev s_grows_for_good : Stmt := topS 50
theorem sc_grows_for_good : FnScope ["runs", "growth", "state"] ["runs", "growth", "state"] (defScope s_grows_for_good) := ⟨rfl, rfl, rfl, by decide +kernel, rfl, by decide +kernel, by decide +kernel⟩
def sp_grows_for_good : Sp := fun vs H Q _ => ∃ (a : Addr) (rs : List Run) (v u : V) (g st : Option Run), vs = [.ref a, v, u] ∧ Runs H a rs ∧ SeqOk rs ∧ StV H v g ∧ StV H u st ∧ ∀ H', Same H H' → Q (.bl (gfB rs g st)) H'
theorem ok_grows_for_good (D : Df K mg "grows_for_good" s_grows_for_good) (G_length_of : Has P w K mg base 1 "length_of" ["runs"] sp_length_of) : Has P w K mg base 2 "grows_for_good" ["runs", "growth", "state"] sp_grows_for_good := by
  refine has_of D sc_grows_for_good (fun _ _ _ _ _ _ us hl => match us, hl with | [_, _, _], _ => rfl) (fun vs H Q E h => ?_) (fun f cdv A outer s₀ H vs Q E hr h => ?_)
  · obtain ⟨_, _, _, _, _, _, rfl, _⟩ := h
    rfl
  · obtain ⟨a, rs, v, u, g, st, rfl, hR, ok, hv, hu, q⟩ := h
    have l4 := ok.1
    refine ⟨_, (pss_one (ps_ret (pe_and (pe_cmpR op_notN (pv 1) pe_non (nomark _)) (pe_and (pe_cmpR op_notN (pv 2) pe_non (nomark _)) (pe_and (pe_cmpR op_eq (pe_ix ix_tup (pv 2) pe_int (fun _ _ => rfl)) (pe_ix ix_tup (pv 1) pe_int (fun _ _ => rfl)) (nomark _)) (pe_one (pe_cmpR op_ge (pe_ix ix_tup (pv 2) pe_int (fun _ _ => rfl)) (pe_callH G_length_of (hr.mono (by omega)) (by rfl) (pa_cons (pv 0) pa_nil)) (nomark _)))))))), ?_⟩
    cases g with
    | none =>
      cases hv
      exact ⟨_, rfl, rfl, _, rfl, iteN rfl (q _ (Same.refl _))⟩
    | some g =>
      obtain ⟨t, rfl, ht⟩ := hv
      refine ⟨_, rfl, rfl, _, rfl, iteP rfl ?_⟩
      cases st with
      | none =>
        cases hu
        exact ⟨_, rfl, rfl, _, rfl, iteN rfl (q _ (Same.refl _))⟩
      | some r =>
        obtain ⟨t2, rfl, ht2⟩ := hu
        refine ⟨_, rfl, rfl, _, rfl, iteP rfl ?_⟩
        refine ⟨_, rfl, t2, _, 0, _, rfl, rfl, .of ht2, at0, _, rfl, t, _, 0, _, rfl, rfl, .of ht, at0, rfl, _, rfl, ?_⟩
        by_cases c : r.1 = g.1
        · refine iteP (decide_eq_true (by rw [c])) ?_
          refine ⟨_, rfl, t2, _, 1, _, rfl, rfl, .of ht2, at1, _, rfl, a, rs, rfl, hR, by omega, fun H1 s1 => ⟨_, _, rfl, rfl, ?_⟩⟩
          have q := q _ s1
          rw [show gfB rs (some g) (some r) = decide (lenR rs ≤ r.2) by show (decide (r.1 = g.1) && decide (lenR rs ≤ r.2)) = _; rw [decide_eq_true c]; rfl] at q
          exact q
        · refine iteN (decide_eq_false fun z => c (V.str.inj z)) ?_
          have q := q _ (Same.refl _)
          rw [show gfB rs (some g) (some r) = false by show (decide (r.1 = g.1) && decide (lenR rs ≤ r.2)) = _; rw [decide_eq_false c]; rfl] at q
          exact q
end
end UP

set_option Elab.async false
set_option linter.all false
set_option maxRecDepth 100000
set_option maxHeartbeats 4000000
set_option pp.maxSteps 500
namespace UP
open PySem PySem.Spec PyProof.Rows L2
def DfD (K : PySem.W.Frag) (mg : Str → Option Value) (x : Str) (st : Stmt) (dvs : List V) : Prop := ∃ f fd, mg x = some (.ref f) ∧ FunD K x x (defArgs st) (defBody st) (defScope st) dvs [] f fd
/-- a def whose last parameter has the default dv -/
def HasDv (dv : V) (P : Program) (w : World) (K : PySem.W.Frag) (mg : Str → Option Value) (base : Heap) (k : Nat) (x : Str) (ps : List Str) (n : Nat) (sp : Sp) : Prop :=
  ∃ f fd, mg x = some (.ref f) ∧ PySem.W.keepIn K (.ref f) = true ∧ Binds K fd ps [] ∧ (∃ ds, Vals [dv] ds ∧ Binds K fd ps ds) ∧ FnOk P w K mg base CX0 k f fd ps sp
section
variable {P : Program} {w : World} {K : PySem.W.Frag} {mg : Str → Option Value} {base : Heap}
theorem HasDv.has {dv : V} {k n : Nat} {x : Str} {ps : List Str} {sp : Sp} (h : HasDv dv P w K mg base k x ps n sp) : Has P w K mg base k x ps sp := by
  obtain ⟨f, fd, g, kp, b, _, F⟩ := h
  exact ⟨f, fd, g, kp, b, F⟩
theorem hasDv_of {dv : V} {x : Str} {st : Stmt} {ps N : List Str} {k n : Nat} {sp : Sp} (D : DfD K mg x st [dv]) (S : FnScope N ps (defScope st)) (hpn : ps.length = n + 1)
    (hb : ∀ (T : Addr) (kV doc pm : Value) (an : Option Addr) (cdv ct : Value) (us its : List Value), us.length = n + 1 → its.length = 1 →
      ∃ k, bindArgs (PySem.W.fnOf x x (defArgs st) (defBody st) (defScope st) (.ref T) kV doc pm an cdv ct) ⟨us, []⟩ = seqItems? (.ref T) >>= k ∧ k (some its.toArray) = pure (ps.zip us))
    (hb1 : ∀ (T : Addr) (kV doc pm : Value) (an : Option Addr) (cdv ct : Value) (us its : List Value), us.length = n → its.length = 1 →
      ∃ k, bindArgs (PySem.W.fnOf x x (defArgs st) (defBody st) (defScope st) (.ref T) kV doc pm an cdv ct) ⟨us, []⟩ = seqItems? (.ref T) >>= k ∧ k (some its.toArray) = pure (ps.zip (us ++ its)))
    (len : ∀ vs H Q E, sp vs H Q E → vs.length = ps.length)
    (body : ∀ (f : Addr) (cdv : Value) (A : Around) (outer : List Env) (s : Shared) (H : Hp) (vs : List V) (Q : VK) (E : XK), Room k (A.deeper (envOfC x (defScope st) s.heap.objs.size f cdv)) → sp vs H Q E →
      ∃ t, PSs (cxOf CX0 P w K mg base N x (defScope st) f cdv A outer s H E).nox (defBody st) t ∧ t { nx := fun _ H' => Q .non H', rt := Q } (start N vs) H) :
    HasDv dv P w K mg base (k + 1) x ps n sp := by
  obtain ⟨f, fd, g, F⟩ := D
  have B0 : Binds K fd ps [] := by
    obtain ⟨ds, v, b⟩ := F.binds1 (n + 1) 1 (ps := ps) (by intro z; cases z) (by rw [hpn]; rfl) fun T kV doc pm an cdv ct us its h1 h2 => by
      obtain ⟨k, e1, e2⟩ := hb T kV doc pm an cdv ct us its h1 h2
      refine ⟨k, e1, ?_⟩
      have h3 : its.length ≤ 1 := Nat.le_of_eq h2
      rw [e2, List.drop_of_length_le h3, List.append_nil]
    cases v
    exact b
  have B1 : ∃ ds, Vals [dv] ds ∧ Binds K fd ps ds := by
    obtain ⟨ds, v, b⟩ := F.binds1 n 0 (ps := ps) (by intro z; cases z) (by rw [hpn]; rfl) fun T kV doc pm an cdv ct us its h1 h2 => by
      obtain ⟨k, e1, e2⟩ := hb1 T kV doc pm an cdv ct us its h1 h2
      exact ⟨k, e1, by rw [e2, List.drop_zero]⟩
    exact ⟨ds, v, b⟩
  refine ⟨f, fd, g, F.kp, B0, B1, F.ok S len fun cdv A outer s H vs Q E hr h => ?_⟩
  obtain ⟨t, p, q⟩ := body f cdv A outer s H vs Q E hr h
  exact ⟨t, p.nox, q⟩
end
section
variable {X : Cx}
theorem pe_callDv {dv : V} {k n : Nat} {x : Str} {ps : List Str} {sp : Sp} {p pos : Pos} {e : Expr} {es : List Expr} {t : TA} (G : HasDv dv X.prog X.w X.K X.mg X.base k x ps n sp) (hr : Room k X.A) (hg : Gl X x) (ha : PA X (e :: es) t)
    (hdb : (x == ("__debug__" : Str)) = false := by decide) (he : starEach (e :: es) X.env = (false, eval e X.env) :: starEach es X.env := by rfl) (hpl : (backTo pos (starEach es X.env)).any (·.1) = false := by rfl) :
    PE X (.Call (.Name x p) (e :: es) [] pos) (tCall sp [dv] E0 t) := by
  obtain ⟨f, fd, g, kp, _, ⟨ds, v, b⟩, F⟩ := G
  exact pe_call F hr hg g kp b v pass0 ha hdb he hpl
theorem room65 {A : Around} {k : Nat} (hr : Room k A) : A.units + 65 < cLine := by
  have := hr.un
  omega
end
/-! ### the states round by round -/
def itS (rs : List Run) (st : Option Run) : Nat → Option Run
  | 0 => st
  | n + 1 => stR rs (itS rs st n)
/-- the course ends with the n-th state -/
structure CEnd (rs : List Run) (g : Option Run) (most : Int) (st : Option Run) (n : Nat) : Prop where
  go : ∀ i, i < n → (i : Int) + 1 ≤ most ∧ gfB rs g (itS rs st i) = false ∧ ∀ j, j < i → itS rs st j ≠ itS rs st i
  stop : most < (n : Int) + 1 ∨ gfB rs g (itS rs st n) = true ∨ ∃ j, j < n ∧ itS rs st j = itS rs st n
def Sts (H : Hp) (p : Addr) (l : List (Option Run)) : Prop := ∃ xs, H p = some (.lst xs) ∧ Paired (StV H) xs l
def courseR (rs : List Run) (st : Option Run) (n : Nat) : List (Option Run) := (List.range (n + 1)).map (itS rs st)
def keyR : Option Run → NestedKey
  | none => .none
  | some r => .tup [.text r.1, .num r.2]
theorem keyR_inj {a b : Option Run} (h : keyR a = keyR b) : a = b := by
  cases a with
  | none => cases b with
    | none => rfl
    | some s => cases h
  | some r => cases b with
    | none => cases h
    | some s =>
      obtain ⟨r1, r2⟩ := r
      obtain ⟨s1, s2⟩ := s
      simp only [keyR, NestedKey.tup.injEq, List.cons.injEq, NestedKey.text.injEq, NestedKey.num.injEq] at h
      rw [h.1, h.2.1]
theorem key_st {H : Hp} {v : V} {st : Option Run} (h : StV H v st) : KeyIn H (keyR st) v := by
  cases st with
  | none =>
    cases h
    exact ⟨.non, by decide, .inl rfl⟩
  | some r =>
    obtain ⟨t, rfl, ht⟩ := h
    exact ⟨.tup ht (.cons (.str _) (.cons (.int _) .nil)), by show NestedKey.depth (.tup [.text r.1, .num r.2]) ≤ 8; simp [NestedKey.depth, NestedKey.depthAll], .inr ⟨t, rfl⟩⟩
/-- all but two objects stay -/
def But2 (p d : Addr) (H H' : Hp) : Prop := ∀ b o, b ≠ p → b ≠ d → H b = some o → H' b = some o
theorem But2.trans {p d : Addr} {H H1 H2 : Hp} (a : But2 p d H H1) (b : But2 p d H1 H2) : But2 p d H H2 := fun c o n1 n2 h => b c o n1 n2 (a c o n1 n2 h)
theorem But2.of {p d : Addr} {H H' : Hp} (s : Same H H') : But2 p d H H' := fun c o _ _ h => s c o h
theorem But2.p {p d : Addr} {H : Hp} {o : HO} : But2 p d H (upd H p o) := fun c u n1 _ h => by rw [upd_ne n1]; exact h
theorem But2.d {p d : Addr} {H : Hp} {o : HO} : But2 p d H (upd H d o) := fun c u _ n2 h => by rw [upd_ne n2]; exact h
/-- neither of the two is a tuple -/
def NoTup (H : Hp) (p : Addr) : Prop := ∀ xs, H p ≠ some (.tup xs)
theorem StV.but2 {p d : Addr} {H H' : Hp} {v : V} {st : Option Run} (b : But2 p d H H') (np : NoTup H p) (nd : NoTup H d) (h : StV H v st) : StV H' v st := by
  cases st with
  | none => exact h
  | some r =>
    obtain ⟨t, rfl, ht⟩ := h
    exact ⟨t, rfl, b _ _ (fun z => np _ (z ▸ ht)) (fun z => nd _ (z ▸ ht)) ht⟩
theorem sts_but2 {p d : Addr} {H H' : Hp} {xs : List V} {l : List (Option Run)} (b : But2 p d H H') (np : NoTup H p) (nd : NoTup H d) (h : Paired (StV H) xs l) : Paired (StV H') xs l := Paired.imp (fun _ _ => StV.but2 b np nd) h
theorem noTup_lst {H : Hp} {p : Addr} {xs : List V} (h : H p = some (.lst xs)) : NoTup H p := fun ys z => by rw [h] at z; cases z
theorem noTup_dx {w : World} {H : Hp} {p : Addr} {rows : List RowX} (h : H p = some (DX w p rows)) : NoTup H p := fun ys z => by rw [h] at z; cases z
section
variable {P : Program} {w : World} {K : PySem.W.Frag} {mg : Str → Option Value} {base : Heap}
/-! course_of: slots 0:runs 1:growth 2:state 3:most 4:states 5:seen -/
abbrev s_course_of : Stmt := topS 51
theorem sc_course_of : FnScope ["runs", "growth", "state", "most", "states", "seen"] ["runs", "growth", "state", "most"] (defScope s_course_of) := ⟨rfl, rfl, rfl, by decide +kernel, rfl, by decide +kernel, by decide +kernel⟩
def sp_course_of : Sp := fun vs H Q _ => ∃ (a : Addr) (rs : List Run) (gv v : V) (g st : Option Run) (most : Int) (n : Nat), vs = [.ref a, gv, v, .int most] ∧ Runs H a rs ∧ SeqOk rs ∧ StV H gv g ∧ StV H v st ∧ CEnd rs g most st n ∧ n ≤ 100000 ∧
  ∀ H' p, Same H H' → H p = none → Sts H' p (courseR rs st n) → Q (.ref p) H'
theorem ok_course_of (D : DfD K mg "course_of" s_course_of [.int 1000000000000000000000000000000]) (T : Tx mg) (G_grows_for_good : Has P w K mg base 2 "grows_for_good" ["runs", "growth", "state"] sp_grows_for_good) (G_state_after_runs : Has P w K mg base 3 "state_after_runs" ["runs", "state"] sp_state_after_runs) :
    HasDv (.int 1000000000000000000000000000000) P w K mg base 4 "course_of" ["runs", "growth", "state", "most"] 3 sp_course_of := by
  refine hasDv_of D sc_course_of rfl (fun T kV doc pm an cdv ct us its h1 h2 => ?_) (fun T kV doc pm an cdv ct us its h1 h2 => ?_) (fun vs H Q E h => ?_) (fun f cdv A outer s₀ H vs Q E hr h => ?_)
  · match us, its, h1, h2 with
    | [_, _, _, _], [_], _, _ => exact ⟨_, rfl, rfl⟩
  · match us, its, h1, h2 with
    | [_, _, _], [_], _, _ => exact ⟨_, rfl, rfl⟩
  · obtain ⟨_, _, _, _, _, _, _, _, rfl, _⟩ := h
    rfl
  · obtain ⟨a, rs, gv, v, g, st, most, n, rfl, hR, ok, hg, hv, ce, nl, q⟩ := h
    have l4 := ok.1
    have pos : ∀ r ∈ rs, 1 ≤ r.2 := fun r hr => (ok.2.1 r hr).2.1
    refine ⟨_, (pss_cons (ps_set (i := 4) sc_course_of.nd rfl (by first | exact Or.inl rfl | exact Or.inr rfl) (pe_lst (pa_cons (pv 2) pa_nil)))
    (pss_cons (ps_set (i := 5) sc_course_of.nd rfl (by first | exact Or.inl rfl | exact Or.inr rfl) (pe_doneX (w := w) rfl (room65 hr) (pv 2) pe_bl))
    (pss_cons (ps_while PassesOwn.never (PW.pt (pw_and (pt_cmpR op_le (pe_callB call_len_seq (by rfl) T.n_len (by decide +kernel) (pa_cons (pv 4) pa_nil)) (pv 3) (nomark _)) (pw_and1 (pt_not (pt_val (pe_callH G_grows_for_good (hr.mono (by omega)) (by rfl) (pa_cons (pv 0) (pa_cons (pv 1) (pa_cons (pv 2) pa_nil)))))))))
      (pss_cons (ps_set (i := 2) sc_course_of.nd rfl (by first | exact Or.inl rfl | exact Or.inr rfl) (pe_callH G_state_after_runs (hr.mono (by omega)) (by rfl) (pa_cons (pv 0) (pa_cons (pv 2) pa_nil))))
    (pss_cons (ps_expr (pe_bm PySem.F.plainAttrs_list PySem.F.slot_list_append PySem.F.type_list_append mt_append (pv 4) (pa_cons (pv 2) pa_nil)))
    (pss_cons (ps_if (pt_cmpR (op_inX (w := w) rfl (room65 hr)) (pv 2) (pv 5) (by with_unfolding_all rfl)) (pss_one ps_break) pss_nil)
    (pss_one (ps_dputX (w := w) rfl (room65 hr) (pv 5) (pv 2) pe_bl rfl))))))
    (pss_one (ps_ret (pv 4)))))), ?_⟩
    refine ⟨_, rfl, (by show 1 ≤ sizeLine; decide), fun p np => ?_⟩
    refine fun d nd => ⟨_, rfl, upd_same, keyR st, ?_, ?_⟩
    · exact key_st ((hv.same (same_upd np)).same (same_upd nd))
    have pd : d ≠ p := fun z => by rw [z, upd_same] at nd; cases nd
    have hd0 : H d = none := by rw [upd_ne pd] at nd; exact nd
    rw [upd_upd]
    have s0 : Same H (upd H p (.lst [v])) := same_upd np
    have b0 : But2 p d H (upd (upd H p (.lst [v])) d (DX w d [(keyR st, v, .bl true)])) := But2.p.trans But2.d
    have fin : ∀ (H' : Hp) (xs : List V), But2 p d H H' → H' p = some (.lst xs) → Paired (StV H') xs (courseR rs st n) → Q (.ref p) H' := fun H' xs b hp pr =>
      q H' p (fun c o e => b c o (fun z => by rw [z, np] at e; cases e) (fun z => by rw [z, hd0] at e; cases e) e) np ⟨xs, hp, pr⟩
    have len : ∀ {H' : Hp} {xs : List V} {i : Nat}, Paired (StV H') xs (courseR rs st i) → xs.length = i + 1 := fun h => by rw [Paired.len h]; simp [courseR]
    have HR : ∀ {H' : Hp}, But2 p d H H' → Runs H' a rs := fun {H'} b => by
      obtain ⟨xs, hx, hp⟩ := hR
      have sm : Same H H' := fun c o e => b c o (fun z => by rw [z, np] at e; cases e) (fun z => by rw [z, hd0] at e; cases e) e
      exact ⟨xs, sm _ _ hx, prs_same sm hp⟩
    have HG : ∀ {H' : Hp}, But2 p d H H' → StV H' gv g := fun {H'} b => hg.same fun c o e => b c o (fun z => by rw [z, np] at e; cases e) (fun z => by rw [z, hd0] at e; cases e) e
    refine ⟨fun m σ H' => ∃ (i : Nat) (vi : V) (xs : List V) (rows : List RowX), m = n - i ∧ i ≤ n ∧ σ = [some (.ref a), some gv, some vi, some (.int most), some (.ref p), some (.ref d)] ∧ But2 p d H H' ∧ H' p = some (.lst xs) ∧ Paired (StV H') xs (courseR rs st i) ∧ DXs w H' d rows ∧ rows.map (·.1) = (courseR rs st i).map keyR ∧ StV H' vi (itS rs st i) ∧ ∀ j, j < i → itS rs st j ≠ itS rs st i, ⟨n, 0, v, [v], [(keyR st, v, .bl true)], rfl, Nat.zero_le _, rfl, b0, ?_, ?_, ?_, rfl, ?_, fun j hj => absurd hj (Nat.not_lt_zero _)⟩, fun m σ H2 hW => ?_⟩
    · rw [upd_ne (fun z => pd z.symm), upd_same]
    · refine .cons ?_ .nil
      exact (hv.same s0).same (same_upd nd)
    · refine ⟨upd_same, fun r hr => ?_⟩
      rw [List.mem_singleton.mp hr]
      exact (key_st (hv.same s0)).same (same_upd nd)
    · exact (hv.same s0).same (same_upd nd)
    obtain ⟨i, vi, xs, rows, rfl, hi, rfl, b2, hp2, pr2, dx2, ks2, hv2, new⟩ := hW
    have lx := len pr2
    have ex : ∀ (H' : Hp), Same H2 H' → i = n → Q (.ref p) H' := fun H' s e => by
      refine fin H' xs (b2.trans (.of s)) (s _ _ hp2) ?_
      rw [← e]
      exact Paired.imp (fun _ _ => StV.same s) pr2
    by_cases c1 : (i : Int) + 1 ≤ most
    · refine ⟨_, rfl, p, xs, rfl, .inl (.of hp2), _, rfl, _, _, rfl, rfl, _, rfl, iteP (decide_eq_true (by rw [lx]; omega)) ?_⟩
      refine ⟨_, rfl, _, rfl, _, rfl, a, rs, gv, vi, g, _, rfl, HR b2, ok, HG b2, hv2, fun H3 s3 => ⟨_, rfl, ?_⟩⟩
      by_cases c2 : gfB rs g (itS rs st i) = true
      · refine iteN (by rw [c2]; rfl) ⟨_, rfl, ex H3 s3 ?_⟩
        refine Classical.byContradiction fun z => ?_
        have := (ce.go i (by omega)).2.1
        rw [c2] at this
        cases this
      · have c2 : gfB rs g (itS rs st i) = false := by simpa using c2
        have lt : i < n := by
          refine Classical.byContradiction fun z => ?_
          have e : i = n := by omega
          rcases ce.stop with h | h | ⟨j, hj, h⟩
          · omega
          · rw [← e, c2] at h
            cases h
          · rw [← e] at hj h
            exact new j hj h
        have ntp : ∀ {H' : Hp}, Same H2 H' → NoTup H' p := fun s => noTup_lst (s _ _ hp2)
        have ntd : ∀ {H' : Hp}, Same H2 H' → NoTup H' d := fun s => noTup_dx (s _ _ dx2.there)
        refine iteP (by rw [c2]; rfl) ⟨fun σ' H' => ∃ (vi : V) (xs : List V) (rows : List RowX), σ' = [some (.ref a), some gv, some vi, some (.int most), some (.ref p), some (.ref d)] ∧ But2 p d H H' ∧ H' p = some (.lst xs) ∧ Paired (StV H') xs (courseR rs st (i + 1)) ∧ DXs w H' d rows ∧ rows.map (·.1) = (courseR rs st (i + 1)).map keyR ∧ StV H' vi (itS rs st (i + 1)) ∧ ∀ j, j < i + 1 → itS rs st j ≠ itS rs st (i + 1), fun σ' H' ⟨vi, xs, rows, h⟩ => ⟨n - (i + 1), by omega, i + 1, vi, xs, rows, rfl, lt, h⟩, ?_⟩
        refine ⟨_, rfl, _, rfl, a, rs, vi, _, rfl, HR (b2.trans (.of s3)), pos, hv2.same s3, fun H4 v4 s4 h4 => ?_⟩
        have h4 : StV H4 v4 (itS rs st (i + 1)) := h4
        have s24 := s3.trans s4
        refine ⟨_, rfl, .inl ⟨rfl, _, SqL.of (s24 _ _ hp2)⟩, _, rfl, p, xs, v4, rfl, rfl, s24 _ _ hp2, small (by omega), ?_⟩
        have b5 : But2 p d H4 (upd H4 p (.lst (xs ++ [v4]))) := .p
        have dx5 : DXs w (upd H4 p (.lst (xs ++ [v4]))) d rows := by
          have D4 := dx2.same s24
          exact ⟨by rw [upd_ne pd]; exact D4.there, fun r hr => (D4.keys r hr).at fun c ys e => b5 c _ (fun z => ntp s24 _ (z ▸ e)) (fun z => ntd s24 _ (z ▸ e)) e⟩
        have h5 := h4.but2 b5 (ntp s24) (ntd s24)
        have crs : courseR rs st (i + 1) = courseR rs st i ++ [itS rs st (i + 1)] := by
          unfold courseR
          rw [List.range_succ (n := i + 1), List.map_append]
          rfl
        have pr5 : Paired (StV (upd H4 p (.lst (xs ++ [v4])))) (xs ++ [v4]) (courseR rs st (i + 1)) := by
          rw [crs]
          exact Paired.app (sts_but2 b5 (ntp s24) (ntd s24) (Paired.imp (fun _ _ => StV.same s24) pr2)) (.cons h5 .nil)
        have bA : But2 p d H (upd H4 p (.lst (xs ++ [v4]))) := (b2.trans (.of s24)).trans b5
        refine ⟨_, rfl, _, rfl, d, rows, keyR (itS rs st (i + 1)), rfl, dx5, key_st h5, _, rfl, ?_⟩
        rw [valX_isSome, ks2]
        by_cases c3 : keyR (itS rs st (i + 1)) ∈ (courseR rs st i).map keyR
        · refine iteP (decide_eq_true c3) ⟨_, rfl, ?_⟩
          have e : i + 1 = n := by
            obtain ⟨s, hs, es⟩ := List.mem_map.mp c3
            obtain ⟨j, hj, ej⟩ := List.mem_map.mp hs
            rw [List.mem_range] at hj
            refine Classical.byContradiction fun z => (ce.go (i + 1) (by omega)).2.2 j hj ?_
            rw [ej]
            exact keyR_inj es
          refine fin _ _ bA upd_same ?_
          rw [← e]
          exact pr5
        · refine iteN (decide_eq_false c3) ⟨_, rfl, _, rfl, d, rows, keyR (itS rs st (i + 1)), rfl, dx5, key_st h5, ?_, ?_⟩
          · have : rows.length = i + 1 := by
              have := congrArg List.length ks2
              simpa [courseR] using this
            exact Nat.le_of_lt (small (by omega))
          · have n3 : keyR (itS rs st (i + 1)) ∉ rows.map (·.1) := by rw [ks2]; exact c3
            have b6 : But2 p d (upd H4 p (.lst (xs ++ [v4]))) (upd (upd H4 p (.lst (xs ++ [v4]))) d (DX w d (putX rows (keyR (itS rs st (i + 1))) v4 (.bl true)))) := .d
            have tp : NoTup (upd H4 p (.lst (xs ++ [v4]))) p := noTup_lst upd_same
            have td : NoTup (upd H4 p (.lst (xs ++ [v4]))) d := noTup_dx dx5.there
            refine ⟨v4, _, _, rfl, bA.trans b6, ?_, sts_but2 b6 tp td pr5, dx5.put (key_st h5), ?_, h5.but2 b6 tp td, fun j hj z => c3 ?_⟩
            · rw [upd_ne (fun z => pd z.symm), upd_same]
            · rw [putX_new n3, List.map_append, ks2, crs, List.map_append]
              rfl
            · rw [← z]
              exact List.mem_map.mpr ⟨_, List.mem_map.mpr ⟨j, List.mem_range.mpr hj, rfl⟩, rfl⟩
    · refine ⟨_, rfl, p, xs, rfl, .inl (.of hp2), _, rfl, _, _, rfl, rfl, _, rfl, iteN (decide_eq_false (by rw [lx]; omega)) (iteF ⟨_, rfl, ex H2 (Same.refl _) ?_⟩)⟩
      refine Classical.byContradiction fun z => c1 (ce.go i (by omega)).1
end
end UP

set_option Elab.async false
set_option linter.all false
set_option maxRecDepth 100000
set_option maxHeartbeats 4000000
set_option pp.maxSteps 500
namespace UP
open PySem PySem.Spec PyProof.Rows L2
theorem Sts.same {H H' : Hp} {p : Addr} {l : List (Option Run)} (s : Same H H') (h : Sts H p l) : Sts H' p l := by
  obtain ⟨xs, hx, hp⟩ := h
  exact ⟨xs, s _ _ hx, Paired.imp (fun _ _ => StV.same s) hp⟩
theorem Sts.at {H : Hp} {p : Addr} {l : List (Option Run)} (h : Sts H p l) {i : Nat} {st : Option Run} (e : l[i]? = some st) : ∃ xs v, H p = some (.lst xs) ∧ xs.length = l.length ∧ xs[i]? = some v ∧ StV H v st := by
  obtain ⟨xs, hx, hp⟩ := h
  rcases paired_get (i := i) hp with ⟨_, e2⟩ | ⟨v, s, e1, e2, hv⟩
  · rw [e] at e2; cases e2
  · rw [e] at e2
    cases e2
    exact ⟨xs, v, hx, Paired.len hp, e1, hv⟩
theorem dp_stsC {K : PySem.W.Frag} {H : Hp} {p : Addr} {es : List (Option Run)} (h : Sts H p es) : Dp K H (.ref p) (.list (es.map dOt)) := by
  obtain ⟨xs, hx, hp⟩ := h
  refine .lst (.of hx) ?_
  have gen : ∀ {xs : List V} {es : List (Option Run)}, Paired (StV H) xs es → DpAll K H xs (es.map dOt) := by
    intro xs es h
    induction h with
    | nil => exact .nil
    | cons h _ ih => exact .cons (dp_o h) ih
  exact gen hp
theorem shaped_stsC {es : List (Option Run)} (h : ∀ e ∈ es, StOk e) : SeqAt.shaped (.list (es.map dOt)) = true := by
  have c : PyData.canLayAll0 (es.map dOt) = true ∧ PyData.depthAll (es.map dOt) ≤ 2 := by
    induction es with
    | nil => exact ⟨rfl, Nat.zero_le _⟩
    | cons e t ih =>
      obtain ⟨i1, i2⟩ := ih fun x hx => h x (List.mem_cons_of_mem _ hx)
      have he : (dOt e).canLay0 = true ∧ (dOt e).depth ≤ 2 := by
        cases e with
        | none => exact ⟨rfl, Nat.zero_le _⟩
        | some r => exact ⟨can_run (h _ (List.mem_cons_self ..) r rfl).1, depth_run r⟩
      constructor
      · rw [List.map_cons, PyData.canLayAll0, he.1, i1]
        rfl
      · rw [List.map_cons, PyData.depthAll]
        exact Nat.max_le.mpr ⟨he.2, i2⟩
  unfold SeqAt.shaped
  rw [PyData.canLay0, c.1, PyData.depth]
  have := c.2
  exact decide_eq_true (by omega)
def agB (g : Run) (b a : Option Run) : Bool := (match b with
  | none => true
  | some r => decide (r.1 = g.1)) && decide (a = some (g.1, numR b + g.2))
/-- the first place of the last state -/
def startR (l : List (Option Run)) : Nat := l.findIdx fun s => decide (s = l.getLast?.getD none)
def contR (l : List (Option Run)) (g : Option Run) (n : Int) : Option Run := if n ≤ (l.length : Int) - 1 then l.getD n.toNat none else match g with
  | some g0 => some (g0.1, numR (l.getLast?.getD none) + (n - ((l.length : Int) - 1)) * g0.2)
  | none => l.getD (startR l + ((n - startR l) % ((l.length : Int) - 1 - startR l)).toNat) none
section
variable {P : Program} {w : World} {K : PySem.W.Frag} {mg : Str → Option Value} {base : Heap}
/-! continued: slots 0:states 1:growth 2:rounds 3:last 4:start -/
abbrev s_continued : Stmt := topS 52
theorem sc_continued : FnScope ["states", "growth", "rounds", "last", "start"] ["states", "growth", "rounds"] (defScope s_continued) := ⟨rfl, rfl, rfl, by decide +kernel, rfl, by decide +kernel, by decide +kernel⟩
def sp_continued : Sp := fun vs H Q _ => ∃ (p : Addr) (gv : V) (l : List (Option Run)) (g : Option Run) (n : Int), vs = [.ref p, gv, .int n] ∧ Sts H p l ∧ StV H gv g ∧ (∀ s ∈ l, StOk s) ∧ l ≠ [] ∧ l.length ≤ 200000 ∧ 0 ≤ n ∧ n.natAbs < 2 ^ 500000 ∧
  ((l.length : Int) - 1 < n → (g = none → startR l + 1 < l.length) ∧ ∀ g0, g = some g0 → l.getLast?.getD none ≠ none ∧ g0.2.natAbs < 2 ^ 10) ∧ ∀ H' v', Same H H' → StV H' v' (contR l g n) → Q v' H'
theorem ok_continued (D : Df K mg "continued" s_continued) (T : Tx mg) : Has P w K mg base 1 "continued" ["states", "growth", "rounds"] sp_continued := by
  refine has_of D sc_continued (fun _ _ _ _ _ _ us hl => match us, hl with | [_, _, _], _ => rfl) (fun vs H Q E h => ?_) (fun f cdv A outer s₀ H vs Q E hr h => ?_)
  · obtain ⟨_, _, _, _, _, rfl, _⟩ := h
    rfl
  · obtain ⟨p, gv, l, g, n, rfl, hl, hg, ok, ne, l2, n0, nb, good, q⟩ := h
    refine ⟨_, (pss_cons (ps_set (i := 3) sc_continued.nd rfl (by first | exact Or.inl rfl | exact Or.inr rfl) (pe_op op_sub (pe_callB call_len_seq (by rfl) T.n_len (by decide +kernel) (pa_cons (pv 0) pa_nil)) pe_int))
    (pss_cons (ps_if (pt_cmpR op_le (pv 2) (pv 3) (nomark _)) (pss_one (ps_ret (pe_ix ix_list (pv 0) (pv 2) (fun _ _ => rfl)))) pss_nil)
    (pss_cons (ps_if (pt_cmpR op_notN (pv 1) pe_non (nomark _)) (pss_one (ps_ret (pe_tup (pa_cons (pe_ix ix_tup (pv 1) pe_int (fun _ _ => rfl)) (pa_cons (pe_op op_add (pe_ix ix_tup (pe_ix ix_list (pv 0) (pv 3) (fun _ _ => rfl)) pe_int (fun _ _ => rfl)) (pe_op op_mulW (pe_op op_sub (pv 2) (pv 3)) (pe_ix ix_tup (pv 1) pe_int (fun _ _ => rfl)))) pa_nil))))) pss_nil)
    (pss_cons (ps_set (i := 4) sc_continued.nd rfl (by first | exact Or.inl rfl | exact Or.inr rfl) (pe_bm PySem.F.plainAttrs_list PySem.F.slot_list_index PySem.F.type_list_index (mt_indexD (room65 hr)) (pv 0) (pa_cons (pe_ix ix_list (pv 0) (pv 3) (fun _ _ => rfl)) pa_nil)))
    (pss_one (ps_ret (pe_ix ix_list (pv 0) (pe_op op_add (pv 4) (pe_op op_mod (pe_op op_sub (pv 2) (pv 4)) (pe_op op_sub (pv 3) (pv 4)))) (fun _ _ => rfl)))))))), ?_⟩
    obtain ⟨xs, hx, hp⟩ := id hl
    have lx : xs.length = l.length := Paired.len hp
    have lpos : 0 < l.length := List.length_pos_iff.mpr ne
    obtain ⟨sl, esl⟩ : ∃ sl, l[l.length - 1]? = some sl := ⟨_, List.getElem?_eq_getElem (by omega)⟩
    have gl : l.getLast?.getD none = sl := by rw [List.getLast?_eq_getElem?, esl]; rfl
    have at' : ∀ (j : Nat) (s : Option Run), l[j]? = some s → ∃ v, xs[j]? = some v ∧ StV H v s := fun j s e => by
      obtain ⟨ys, v, hy, _, ev, hv⟩ := hl.at e
      rw [hx] at hy
      cases hy
      exact ⟨v, ev, hv⟩
    refine ⟨_, rfl, p, xs, rfl, .inl (.of hx), _, _, rfl, rfl, ?_⟩
    refine ⟨_, rfl, _, rfl, _, _, rfl, rfl, _, rfl, ?_⟩
    rw [lx]
    by_cases c : n ≤ (l.length : Int) - 1
    · refine iteP (decide_eq_true c) ?_
      obtain ⟨s, es⟩ : ∃ s, l[n.toNat]? = some s := ⟨_, List.getElem?_eq_getElem (by omega)⟩
      obtain ⟨v, ev, hv⟩ := at' _ _ es
      have q := q H v (Same.refl _)
      rw [show contR l g n = s by unfold contR; rw [if_pos c, List.getD_eq_getElem?_getD, es]; rfl] at q
      exact ⟨_, rfl, _, rfl, p, xs, n, v, rfl, rfl, .of hx, by rw [show n = ((n.toNat : Nat) : Int) by omega]; exact atI_nat ev, q hv⟩
    · refine iteN (decide_eq_false c) ?_
      obtain ⟨g1, g2⟩ := good (by omega)
      obtain ⟨vl, evl, hvl⟩ := at' _ _ esl
      have evl' : atI xs ((l.length : Int) - 1) = some vl := by rw [show (l.length : Int) - 1 = ((l.length - 1 : Nat) : Int) by omega]; exact atI_nat evl
      cases g with
      | some g0 =>
        obtain ⟨tg, rfl, htg⟩ := hg
        obtain ⟨nn, gb⟩ := g2 g0 rfl
        rw [gl] at nn
        cases sl with
        | none => exact absurd rfl nn
        | some r =>
          obtain ⟨tr, rfl, htr⟩ := hvl
          refine ⟨_, rfl, rfl, _, rfl, iteP rfl ?_⟩
          have q := fun o t => q (upd H t o) (.ref t)
          rw [show contR l (some g0) n = some (g0.1, r.2 + (n - ((l.length : Int) - 1)) * g0.2) by unfold contR; rw [if_neg c, gl]; rfl] at q
          refine ⟨_, rfl, tg, _, 0, _, rfl, rfl, .of htg, at0, _, rfl, _, rfl, p, xs, _, _, rfl, rfl, .of hx, evl', tr, _, 1, _, rfl, rfl, .of htr, at1, ?_⟩
          refine ⟨_, rfl, _, rfl, _, _, rfl, rfl, _, rfl, tg, _, 1, _, rfl, rfl, .of htg, at1, _, _, rfl, rfl, wide_mul (a := 500000) (Nat.lt_of_le_of_lt (by omega) nb) gb (by decide) (by decide) (by decide), _, _, rfl, rfl, (by show 2 ≤ sizeLine; decide), fun t nt => q _ t (same_upd nt) ⟨t, rfl, upd_same⟩⟩
      | none =>
        cases hg
        have st := g1 rfl
        refine ⟨_, rfl, rfl, _, rfl, iteN rfl ?_⟩
        have fs : l[startR l]? = some sl := by
          have lt : startR l < l.length := by omega
          have := List.findIdx_getElem (w := lt)
          rw [List.getElem?_eq_getElem lt]
          exact congrArg some ((of_decide_eq_true this).trans gl)
        have fno : ∀ (m : Nat) (z : Option Run), m < startR l → l[m]? = some z → z ≠ sl := fun m z hm e => by
          have lt : m < l.length := by omega
          have := List.not_of_lt_findIdx (p := fun s => decide (s = l.getLast?.getD none)) (xs := l) hm
          rw [List.getElem?_eq_getElem lt] at e
          cases e
          exact fun e => (of_decide_eq_false this) (e.trans gl.symm)
        refine ⟨_, rfl, .inl ⟨rfl, _, SqL.of hx⟩, _, rfl, _, rfl, p, xs, _, vl, rfl, rfl, .of hx, evl', p, vl, dOt sl, l.map dOt, startR l, dOt sl, rfl, rfl, dp_stsC hl, dp_o hvl, shaped_stsC ok, shaped_o (ok sl (List.mem_of_getElem? esl)), by rw [List.getElem?_map, fs]; rfl, by rw [eqv_o]; exact decide_eq_true rfl, fun m z hm e => ?_, ?_⟩
        · rw [List.getElem?_map] at e
          cases hz : l[m]? with
          | none => rw [hz] at e; cases e
          | some s =>
            rw [hz] at e
            cases e
            rw [eqv_o]
            exact decide_eq_false (fno m s hm hz)
        · have dpos : (0 : Int) < (l.length : Int) - 1 - (startR l : Nat) := by omega
          have m0 := Int.emod_nonneg (n - (startR l : Nat)) (Int.ne_of_gt dpos)
          have m1 := Int.emod_lt_of_pos (n - (startR l : Nat)) dpos
          have q := q H
          rw [show contR l none n = l.getD (startR l + ((n - startR l) % ((l.length : Int) - 1 - startR l)).toNat) none by unfold contR; rw [if_neg c]] at q
          generalize hk : (n - (startR l : Nat)) % ((l.length : Int) - 1 - (startR l : Nat)) = k at m0 m1 q
          obtain ⟨s, es⟩ : ∃ s, l[startR l + k.toNat]? = some s := ⟨_, List.getElem?_eq_getElem (by omega)⟩
          obtain ⟨v, ev, hv⟩ := at' _ _ es
          have q := q v (Same.refl _)
          rw [List.getD_eq_getElem?_getD, es] at q
          exact ⟨_, rfl, _, rfl, _, rfl, _, rfl, _, _, rfl, rfl, _, rfl, _, rfl, _, _, rfl, rfl, _, _, rfl, rfl, dpos, _, _, rfl, rfl, p, xs, _, v, rfl, rfl, .of hx, by rw [hk, show ((startR l : Nat) : Int) + k = ((startR l + k.toNat : Nat) : Int) by omega]; exact atI_nat ev, q hv⟩
end
end UP

set_option Elab.async false
set_option linter.all false
set_option maxRecDepth 100000
set_option maxHeartbeats 4000000
set_option pp.maxSteps 500
namespace UP
open PySem PySem.Spec PyProof.Rows L2
/-- a def whose last parameter, kw, has the default None, and that may raise -/
def HasXN (P : Program) (w : World) (K : PySem.W.Frag) (mg : Str → Option Value) (base : Heap) (k : Nat) (x : Str) (ps : List Str) (n : Nat) (kw : Str) (sp : Sp) : Prop :=
  ∃ f fd, mg x = some (.ref f) ∧ PySem.W.keepIn K (.ref f) = true ∧ Binds K fd ps [] ∧ KBn K fd ps n [kw] (fun us ws => us ++ ws) (fun vs zs => vs ++ zs) ∧ FnOk P w K mg base (L2.CX P w) k f fd ps sp
section
variable {P : Program} {w : World} {K : PySem.W.Frag} {mg : Str → Option Value} {base : Heap}
theorem HasXN.has {k n : Nat} {x kw : Str} {ps : List Str} {sp : Sp} (h : HasXN P w K mg base k x ps n kw sp) : HasX P w K mg base k x ps sp := by
  obtain ⟨f, fd, g, kp, b, _, F⟩ := h
  exact ⟨f, fd, g, kp, b, F⟩
theorem hasXN_of {x kw : Str} {st : Stmt} {ps N : List Str} {k n : Nat} {sp : Sp} (D : DfD K mg x st [.non]) (S : FnScope N ps (defScope st)) (hpn : ps.length = n + 1)
    (hb : ∀ (T : Addr) (kV doc pm : Value) (an : Option Addr) (cdv ct : Value) (us its : List Value), us.length = n + 1 → its.length = 1 →
      ∃ k, bindArgs (PySem.W.fnOf x x (defArgs st) (defBody st) (defScope st) (.ref T) kV doc pm an cdv ct) ⟨us, []⟩ = seqItems? (.ref T) >>= k ∧ k (some its.toArray) = pure (ps.zip us))
    (hb2 : ∀ (T : Addr) (kV doc pm : Value) (an : Option Addr) (cdv ct : Value) (us its : List Value) (v : Value), us.length = n → its.length = 1 →
      ∃ k, bindArgs (PySem.W.fnOf x x (defArgs st) (defBody st) (defScope st) (.ref T) kV doc pm an cdv ct) ⟨us, [(kw, v)]⟩ = seqItems? (.ref T) >>= k ∧ k (some its.toArray) = pure (ps.zip (us ++ [v])))
    (len : ∀ vs H Q E, sp vs H Q E → vs.length = ps.length)
    (body : ∀ (f : Addr) (cdv : Value) (A : Around) (outer : List Env) (s : Shared) (H : Hp) (vs : List V) (Q : VK) (E : XK), Room k (A.deeper (envOfC x (defScope st) s.heap.objs.size f cdv)) → sp vs H Q E →
      ∃ t, PSs (cxOf (L2.CX P w) P w K mg base N x (defScope st) f cdv A outer s H E) (defBody st) t ∧ t { nx := fun _ H' => Q .non H', rt := Q } (start N vs) H) :
    HasXN P w K mg base (k + 1) x ps n kw sp := by
  obtain ⟨f, fd, g, F⟩ := D
  have B0 : Binds K fd ps [] := by
    obtain ⟨ds, v, b⟩ := F.binds1 (n + 1) 1 (ps := ps) (by intro z; cases z) (by rw [hpn]; rfl) fun T kV doc pm an cdv ct us its h1 h2 => by
      obtain ⟨k, e1, e2⟩ := hb T kV doc pm an cdv ct us its h1 h2
      refine ⟨k, e1, ?_⟩
      have h3 : its.length ≤ 1 := Nat.le_of_eq h2
      rw [e2, List.drop_of_length_le h3, List.append_nil]
    cases v
    exact b
  have B2 : KBn K fd ps n [kw] (fun us ws => us ++ ws) (fun vs zs => vs ++ zs) := by
    refine ⟨fun s us ws X l1 l2 => ?_, fun r1 r2 => r1.append r2⟩
    obtain ⟨oc, od, dV, kV, doc, pm, an, cdv, ct, osl, rfl, lk, hcd, hD, _⟩ := F.ex
    rcases hD with ⟨z, _⟩ | ⟨_, T, o, its, m, rfl, lT, oT, rT⟩
    · cases z
    · match ws, l2 with
      | [v], _ =>
        obtain ⟨k, e1, e2⟩ := hb2 T kV doc pm an cdv ct us its v l1 rT.length.symm
        refine BindsTo.of_looks fun M => ?_
        show PySem.W.Looks M s.heap (bindArgs _ ⟨us, [(kw, v)]⟩) _
        rw [e1]
        exact looks_items X lT oT (.of_pure e2)
  exact ⟨f, fd, g, F.kp, B0, B2, F.ok S len fun cdv A outer s H vs Q E hr h => body f cdv A outer s H vs Q E hr h⟩
end
section
variable {X : Cx}
/-- the last one by its name, nothing raised -/
theorem pe_callXN {k n : Nat} {x kw : Str} {ps : List Str} {sp : Sp} {p pos : Pos} {e : Expr} {es : List Expr} {kws : List Keyword} {t tk : TA} (G : HasXN X.prog X.w X.K X.mg X.base k x ps n kw sp) (hr : Room k X.A) (hg : Gl X x) (ha : PA X (e :: es) t) (hk : PK X kws tk)
    (h1 : (backToKw pos (keywordEach kws X.env)).all (·.1.isSome) = true := by rfl) (h2 : (backToKw pos (keywordEach kws X.env)).filterMap (·.1) = [kw] := by rfl) (hdb : (x == ("__debug__" : Str)) = false := by decide)
    (he : starEach (e :: es) X.env = (false, eval e X.env) :: starEach es X.env := by rfl) (hpl : ((backTo pos (starEach (e :: es) X.env)).any (·.1) || (backToKw pos (keywordEach kws X.env)).any (·.1.isNone)) = false := by rfl) :
    PE X (.Call (.Name x p) (e :: es) kws pos) (tCallN n 1 sp (fun vs zs => vs ++ zs) E0 t tk) := by
  obtain ⟨f, fd, g, kp, _, b, F⟩ := G
  exact pe_callN F hr hg g kp b passX0 ha hk h1 h2 hdb he hpl
end
/-! ### states stay states -/
theorem stOk_stepC {a : Option Run} {k : Str} {c : Int} (h : StOk a) (kk : KindOk k) (c1 : 1 ≤ c) : StOk (stepR a k c) := by
  intro r e
  cases a with
  | none =>
    cases e
    exact ⟨kk, c1⟩
  | some s =>
    have hs := h s rfl
    by_cases e1 : s.1 = k
    · rw [show stepR (some s) k c = some (k, s.2 + c) from if_pos e1] at e
      cases e
      exact ⟨kk, by show 1 ≤ s.2 + c; have := hs.2; omega⟩
    · rw [show stepR (some s) k c = if 0 < s.2 - c then some (s.1, s.2 - c) else if s.2 - c = 0 then none else some (k, -(s.2 - c)) from if_neg e1] at e
      split at e
      · cases e
        exact ⟨hs.1, by show 1 ≤ s.2 - c; omega⟩
      · split at e
        · cases e
        · cases e
          exact ⟨kk, by show 1 ≤ -(s.2 - c); omega⟩
theorem stOk_stR : ∀ (rs : List Run) (st : Option Run), (∀ r ∈ rs, KindOk r.1 ∧ 1 ≤ r.2) → StOk st → StOk (stR rs st)
  | [], st, _, h => h
  | r :: t, st, k, h => by
    have hr := k r (List.mem_cons_self ..)
    exact stOk_stR t _ (fun x hx => k x (List.mem_cons_of_mem _ hx)) (stOk_stepC h hr.1 hr.2)
theorem SeqOk.kinds {rs : List Run} (h : SeqOk rs) : ∀ r ∈ rs, KindOk r.1 ∧ 1 ≤ r.2 := fun r hr => ⟨(h.2.1 r hr).1, (h.2.1 r hr).2.1⟩
theorem itS_ok {rs : List Run} {st : Option Run} (k : ∀ r ∈ rs, KindOk r.1 ∧ 1 ≤ r.2) (h : StOk st) : ∀ n, StOk (itS rs st n)
  | 0 => h
  | n + 1 => stOk_stR rs _ k (itS_ok k h n)
theorem crs_ok {rs : List Run} {st : Option Run} {n : Nat} (k : ∀ r ∈ rs, KindOk r.1 ∧ 1 ≤ r.2) (h : StOk st) : ∀ s ∈ courseR rs st n, StOk s := fun s hs => by
  obtain ⟨j, _, rfl⟩ := List.mem_map.mp hs
  exact itS_ok k h j
theorem crs_len {rs : List Run} {st : Option Run} {n : Nat} : (courseR rs st n).length = n + 1 := by simp [courseR]
theorem crs_at {rs : List Run} {st : Option Run} {n i : Nat} (h : i ≤ n) : (courseR rs st n)[i]? = some (itS rs st i) := by
  unfold courseR
  rw [List.getElem?_map, List.getElem?_range (by omega)]
  rfl
theorem crs_last {rs : List Run} {st : Option Run} {n : Nat} : (courseR rs st n).getLast?.getD none = itS rs st n := by
  rw [List.getLast?_eq_getElem?, crs_len, show n + 1 - 1 = n by omega, crs_at (Nat.le_refl _)]
  rfl
theorem frR_nonneg {rs : List Run} {st : Option Run} : 0 ≤ frR rs st := by
  cases st with
  | none => exact Int.le_refl _
  | some r =>
    show 0 ≤ (if r.2 < lenR rs ∨ fallR rs r.1 ≤ 0 then 0 else (r.2 - lenR rs) / fallR rs r.1 + 1)
    split
    · exact Int.le_refl _
    · rename_i h
      have h1 : ¬ r.2 < lenR rs := fun z => h (.inl z)
      have h2 : ¬ fallR rs r.1 ≤ 0 := fun z => h (.inr z)
      have := Int.ediv_nonneg (a := r.2 - lenR rs) (b := fallR rs r.1) (by omega) (by omega)
      omega
/-- as long as it only falls -/
theorem fr_room {rs : List Run} {r : Run} {n : Int} (pos : ∀ r ∈ rs, 1 ≤ r.2) (n0 : n ≠ 0) (h0 : 0 ≤ n) (h : n ≤ frR rs (some r)) : lenR rs ≤ r.2 ∧ 0 < fallR rs r.1 ∧ (n - 1) * fallR rs r.1 ≤ r.2 - lenR rs := by
  have e : frR rs (some r) = if r.2 < lenR rs ∨ fallR rs r.1 ≤ 0 then 0 else (r.2 - lenR rs) / fallR rs r.1 + 1 := rfl
  rw [e] at h
  by_cases c : r.2 < lenR rs ∨ fallR rs r.1 ≤ 0
  · rw [if_pos c] at h
    omega
  · rw [if_neg c] at h
    have c1 : ¬ r.2 < lenR rs := fun z => c (.inl z)
    have c2 : ¬ fallR rs r.1 ≤ 0 := fun z => c (.inr z)
    refine ⟨by omega, by omega, ?_⟩
    have h1 : n - 1 ≤ (r.2 - lenR rs) / fallR rs r.1 := by omega
    have h2 := Int.mul_le_mul_of_nonneg_right h1 (show 0 ≤ fallR rs r.1 by omega)
    have h3 := Int.ediv_mul_le (r.2 - lenR rs) (b := fallR rs r.1) (by omega)
    omega
theorem fn_ok {rs : List Run} {st : Option Run} {n : Int} (pos : ∀ r ∈ rs, 1 ≤ r.2) (h : StOk st) (h0 : 0 ≤ n) (hn : n ≤ frR rs st) : StOk (fnR rs st n) := by
  unfold fnR
  by_cases c : n = 0
  · rw [if_pos c]
    exact h
  · rw [if_neg c]
    cases st with
    | none => exact h
    | some r =>
      obtain ⟨f1, f2, f3⟩ := fr_room pos c h0 hn
      have c1 := cntK_pos (k := r.1) pos
      have ef : fallR rs r.1 = lenR rs - 2 * cntK rs r.1 := rfl
      have e : n * fallR rs r.1 = (n - 1) * fallR rs r.1 + fallR rs r.1 := by rw [Int.sub_mul, Int.one_mul]; omega
      show StOk (withR r.1 (r.2 - n * fallR rs r.1))
      intro s es
      unfold withR at es
      split at es
      · cases es
      · cases es
        refine ⟨(h r rfl).1, ?_⟩
        show 1 ≤ r.2 - n * fallR rs r.1
        omega
theorem fr_some {rs : List Run} {st : Option Run} {n : Int} (h0 : n ≠ 0) (h1 : 0 ≤ n) (h : n ≤ frR rs st) : st ≠ none := by
  rintro rfl
  have : n ≤ 0 := h
  omega
section
variable {P : Program} {w : World} {K : PySem.W.Frag} {mg : Str → Option Value} {base : Heap}
/-! adds_growth: slots 0:growth 1:before 2:after 3:kind 4:number -/
abbrev s_adds_growth : Stmt := topS 53
theorem sc_adds_growth : FnScope ["growth", "before", "after", "kind", "number"] ["growth", "before", "after"] (defScope s_adds_growth) := ⟨rfl, rfl, rfl, by decide +kernel, rfl, by decide +kernel, by decide +kernel⟩
def sp_adds_growth : Sp := fun vs H Q _ => ∃ (gv v u : V) (g : Run) (b a : Option Run), vs = [gv, v, u] ∧ StV H gv (some g) ∧ StV H v b ∧ StV H u a ∧ StOk (some g) ∧ StOk b ∧ StOk a ∧ ∀ H', Same H H' → Q (.bl (agB g b a)) H'
theorem ok_adds_growth (D : Df K mg "adds_growth" s_adds_growth) (G_waiting_number : Has P w K mg base 1 "waiting_number" ["state"] sp_waiting_number) : Has P w K mg base 2 "adds_growth" ["growth", "before", "after"] sp_adds_growth := by
  refine has_of D sc_adds_growth (fun _ _ _ _ _ _ us hl => match us, hl with | [_, _, _], _ => rfl) (fun vs H Q E h => ?_) (fun f cdv A outer s₀ H vs Q E hr h => ?_)
  · obtain ⟨_, _, _, _, _, _, rfl, _⟩ := h
    rfl
  · obtain ⟨gv, v, u, g, b, a, rfl, ⟨tg, rfl, htg⟩, hv, hu, og, ob, oa, q⟩ := h
    refine ⟨_, (pss_cons (ps_asg (pv 0) (pg_tup rfl (pgs_cons (pg_name (i := 3) sc_adds_growth.nd rfl (by first | exact Or.inl rfl | exact Or.inr rfl)) (pgs_cons (pg_name (i := 4) sc_adds_growth.nd rfl (by first | exact Or.inl rfl | exact Or.inr rfl)) pgs_nil))))
    (pss_one (ps_ret (pe_and (pe_or (pe_cmpR op_isN (pv 1) pe_non (nomark _)) (pe_one (pe_cmpR op_eq (pe_ix ix_tup (pv 1) pe_int (fun _ _ => rfl)) (pv 3) (nomark _)))) (pe_one (pe_cmpR (op_eqD hr.units) (pv 2) (pe_tup (pa_cons (pv 3) (pa_cons (pe_op op_add (pe_callH G_waiting_number (hr.mono (by omega)) (by rfl) (pa_cons (pv 1) pa_nil)) (pv 4)) pa_nil))) (nomark _))))))), ?_⟩
    refine ⟨_, rfl, tg, _, rfl, .of htg, rfl, _, _, rfl, _, _, rfl, rfl, ?_⟩
    have nb : 0 ≤ numR b → StOk (some (g.1, numR b + g.2)) := fun h r e => by
      cases e
      have := og g rfl
      exact ⟨this.1, by show 1 ≤ numR b + g.2; have := this.2; omega⟩
    cases b with
    | none =>
      cases hv
      refine ⟨_, rfl, rfl, _, rfl, iteP rfl ⟨_, rfl, iteP rfl ?_⟩⟩
      refine ⟨_, rfl, _, rfl, _, rfl, .non, none, rfl, rfl, _, rfl, _, _, rfl, rfl, (by show 2 ≤ sizeLine; decide), fun t nt => ?_⟩
      have q := fun o => q (upd H t o) (same_upd nt)
      rw [show agB g none a = decide (a = some (g.1, numR none + g.2)) from Bool.true_and _] at q
      refine ⟨dOt a, dOt (some (g.1, numR none + g.2)), dp_o (hu.same (same_upd nt)), dp_o (H := upd H t _) ⟨t, rfl, upd_same⟩, shaped_o oa, shaped_o (nb (Int.le_refl _)), ?_⟩
      rw [eqv_o]
      exact q _
    | some r =>
      obtain ⟨tr, rfl, htr⟩ := hv
      refine ⟨_, rfl, rfl, _, rfl, iteN rfl ⟨_, rfl, tr, _, 0, _, rfl, rfl, .of htr, at0, _, rfl, rfl, ?_⟩⟩
      by_cases c : r.1 = g.1
      · refine ⟨_, rfl, iteP (decide_eq_true (by rw [c])) ?_⟩
        refine ⟨_, rfl, _, rfl, _, rfl, .ref tr, some r, rfl, ⟨tr, rfl, htr⟩, _, rfl, _, _, rfl, rfl, (by show 2 ≤ sizeLine; decide), fun t nt => ?_⟩
        have q := fun o => q (upd H t o) (same_upd nt)
        rw [show agB g (some r) a = decide (a = some (g.1, numR (some r) + g.2)) by show (decide (r.1 = g.1) && _) = _; rw [decide_eq_true c]; rfl] at q
        refine ⟨dOt a, dOt (some (g.1, numR (some r) + g.2)), dp_o (hu.same (same_upd nt)), dp_o (H := upd H t _) ⟨t, rfl, upd_same⟩, shaped_o oa, shaped_o (nb (by have := (ob r rfl).2; show 0 ≤ r.2; omega)), ?_⟩
        rw [eqv_o]
        exact q _
      · refine ⟨_, rfl, iteN (decide_eq_false fun z => c (V.str.inj z)) ?_⟩
        have q := q H (Same.refl _)
        rw [show agB g (some r) a = false by show (decide (r.1 = g.1) && _) = false; rw [decide_eq_false c]; rfl] at q
        exact q
end
end UP

set_option Elab.async false
set_option linter.all false
set_option maxRecDepth 100000
set_option maxHeartbeats 4000000
set_option pp.maxSteps 500
namespace UP
open PySem PySem.Spec PyProof.Rows L2
/-- the state from which a course of n rounds is followed -/
def ff (rs : List Run) (st : Option Run) (n : Int) : Int := if frR rs st < n then frR rs st else n
structure AftOk (rs : List Run) (st : Option Run) (n : Int) (k : Nat) : Prop where
  ce : CEnd rs (grR rs) (n - ff rs st n) (fnR rs st (ff rs st n)) k
  few : k ≤ 100000
  ret : grR rs = none → (k : Int) < n - ff rs st n → startR (courseR rs (fnR rs st (ff rs st n)) k) < k
  gro : grR rs ≠ none → (k : Int) < n - ff rs st n → itS rs (fnR rs st (ff rs st n)) k ≠ none
def aftR (rs : List Run) (st : Option Run) (n : Int) (k : Nat) : Option Run := contR (courseR rs (fnR rs st (ff rs st n)) k) (grR rs) (n - ff rs st n)
theorem ff_bd {rs : List Run} {st : Option Run} {n : Int} (h : 0 ≤ n) : 0 ≤ ff rs st n ∧ ff rs st n ≤ n ∧ ff rs st n ≤ frR rs st := by
  have := frR_nonneg (rs := rs) (st := st)
  unfold ff
  split <;> omega
theorem gr_small {rs : List Run} {g : Run} (pos : ∀ r ∈ rs, 1 ≤ r.2) (l : lenR rs ≤ 400) (h : grR rs = some g) : g.2.natAbs < 2 ^ 10 := by
  obtain ⟨_, h2, h3⟩ := gr_is h
  have := cntK_le (k := g.1) pos
  omega
theorem gr_ok {rs : List Run} (ok : SeqOk rs) : StOk (grR rs) := fun g h => by
  obtain ⟨h1, _, h3⟩ := gr_is h
  obtain ⟨r, hr, e⟩ := List.mem_map.mp h1
  rw [← e]
  exact ⟨(ok.2.1 r hr).1, h3⟩
section
variable {P : Program} {w : World} {K : PySem.W.Frag} {mg : Str → Option Value} {base : Heap}
/-! checked_short_runs: slots 0:sequence 1:runs -/
abbrev s_checked_short_runs : Stmt := topS 35
theorem sc_checked_short_runs : FnScope ["sequence", "runs"] ["sequence"] (defScope s_checked_short_runs) := ⟨rfl, rfl, rfl, by decide +kernel, rfl, by decide +kernel, by decide +kernel⟩
def sp_checked_short_runs (CS CL : Addr) : Sp := fun vs H Q E => ∃ (v : V) (m : Dat), vs = [v] ∧ Rp H v m ∧ m.fits ∧
  (m.seq = true → lenR m.runs ≤ 400 → ∀ H' p, Same H H' → H p = none → Runs H' p m.runs → Q (.ref p) H') ∧ (m.seq = false → ∀ H', Same H H' → E (.ref CS) none H') ∧ (m.seq = true → 400 < lenR m.runs → ∀ H', Same H H' → E (.ref CL) none H')
theorem ok_checked_short_runs {CS CL : Addr} (D : Df K mg "checked_short_runs" s_checked_short_runs) (T : Tx mg) (X1 : Ex K mg "TooLong" CL) (G_checked_runs : HasX P w K mg base 5 "checked_runs" ["sequence"] (sp_checked_runs CS)) (G_length_of : Has P w K mg base 1 "length_of" ["runs"] sp_length_of) :
    HasX P w K mg base 6 "checked_short_runs" ["sequence"] (sp_checked_short_runs CS CL) := by
  refine hasX_of D sc_checked_short_runs (fun _ _ _ _ _ _ us hl => match us, hl with | [_], _ => rfl) (fun vs H Q E h => ?_) (fun f cdv A outer s₀ H vs Q E hr h => ?_)
  · obtain ⟨_, _, rfl, _⟩ := h
    rfl
  · obtain ⟨v, m, rfl, hv, fm, q, q1, q2⟩ := h
    refine ⟨_, (pss_cons (ps_set (i := 1) sc_checked_short_runs.nd rfl (by first | exact Or.inl rfl | exact Or.inr rfl) (pe_callXH G_checked_runs (takes_of rfl rfl rfl rfl) (hr.mono (by omega)) (by rfl) (pa_cons (pv 0) pa_nil)))
    (pss_cons (ps_if (pt_cmpR op_gt (pe_callH G_length_of (hr.mono (by omega)) (by rfl) (pa_cons (pv 1) pa_nil)) (pe_glI T.c_MAX_ITEMS (by rfl)) (nomark _)) (pss_one (ps_raise rfl (takes_of rfl rfl rfl rfl) (pmk_own PySem.F.excBase_ValueError X1.x X1.g X1.k (raises_own X1.b X1.t) (by exact rfl)))) pss_nil)
    (pss_one (ps_ret (pv 1))))), ?_⟩
    refine ⟨_, rfl, v, m, rfl, hv, fm, fun c0 H1 p s1 np hp => ?_, fun c0 H1 s1 => q1 c0 _ s1⟩
    have ok := (seq_rp hv c0).2
    refine ⟨_, rfl, p, _, rfl, hp, by have := ok.1; omega, fun H2 s2 => ⟨_, _, rfl, rfl, _, rfl, ?_⟩⟩
    by_cases c : 400 < lenR m.runs
    · exact iteP (decide_eq_true c) (q2 c0 c _ (s1.trans s2))
    · exact iteN (decide_eq_false c) ⟨_, rfl, q c0 (by omega) _ p (s1.trans s2) np (hp.same s2)⟩
/-! growth_of: slots 0:sequence -/
abbrev s_growth_of : Stmt := topS 55
theorem sc_growth_of : FnScope ["sequence"] ["sequence"] (defScope s_growth_of) := ⟨rfl, rfl, rfl, by decide +kernel, rfl, by decide +kernel, by decide +kernel⟩
def sp_growth_of (CS CL : Addr) : Sp := fun vs H Q E => ∃ (v : V) (m : Dat), vs = [v] ∧ Rp H v m ∧ m.fits ∧
  (m.seq = true → lenR m.runs ≤ 400 → ∀ H' v', Same H H' → StV H' v' (grR m.runs) → Q v' H') ∧ (m.seq = false → ∀ H', Same H H' → E (.ref CS) none H') ∧ (m.seq = true → 400 < lenR m.runs → ∀ H', Same H H' → E (.ref CL) none H')
theorem ok_growth_of {CS CL : Addr} (D : Df K mg "growth_of" s_growth_of) (G_checked_short_runs : HasX P w K mg base 6 "checked_short_runs" ["sequence"] (sp_checked_short_runs CS CL)) (G_growth_in : Has P w K mg base 7 "growth_in" ["runs"] sp_growth_in) :
    HasX P w K mg base 8 "growth_of" ["sequence"] (sp_growth_of CS CL) := by
  refine hasX_of D sc_growth_of (fun _ _ _ _ _ _ us hl => match us, hl with | [_], _ => rfl) (fun vs H Q E h => ?_) (fun f cdv A outer s₀ H vs Q E hr h => ?_)
  · obtain ⟨_, _, rfl, _⟩ := h
    rfl
  · obtain ⟨v, m, rfl, hv, fm, q, q1, q2⟩ := h
    refine ⟨_, (pss_one (ps_ret (pe_callH G_growth_in (hr.mono (by omega)) (by rfl) (pa_cons (pe_callXH G_checked_short_runs (takes_of rfl rfl rfl rfl) (hr.mono (by omega)) (by rfl) (pa_cons (pv 0) pa_nil)) pa_nil)))), ?_⟩
    refine ⟨_, rfl, v, m, rfl, hv, fm, fun c0 l4 H1 p s1 np hp => ?_, fun c0 H1 s1 => q1 c0 _ s1, fun c0 c1 H1 s1 => q2 c0 c1 _ s1⟩
    exact ⟨p, _, rfl, hp, (seq_rp hv c0).2, l4, fun H2 v2 s2 h2 => q c0 l4 _ _ (s1.trans s2) h2⟩
/-! after_rounds: slots 0:sequence 1:rounds 2:state 3:runs 4:growth 5:falling 6:states -/
abbrev s_after_rounds : Stmt := topS 54
theorem sc_after_rounds : FnScope ["sequence", "rounds", "state", "runs", "growth", "falling", "states"] ["sequence", "rounds", "state"] (defScope s_after_rounds) := ⟨rfl, rfl, rfl, by decide +kernel, rfl, by decide +kernel, by decide +kernel⟩
def sp_after_rounds (CS CL CN CT : Addr) : Sp := fun vs H Q E => ∃ (v u z : V) (m nd sd : Dat), vs = [v, u, z] ∧ Rp H v m ∧ m.fits ∧ Rp H u nd ∧ Rp H z sd ∧ sd.fit2 ∧
  (m.seq = true → lenR m.runs ≤ 400 → nd.inI 0 1000000000000000000000000000000 = true → sd.state = true → ∃ (n : Int) (k : Nat), nd = .int n ∧ AftOk m.runs sd.stt n k ∧ ∀ H' v', Same H H' → StV H' v' (aftR m.runs sd.stt n k) → Q v' H') ∧
  (m.seq = false → ∀ H', Same H H' → E (.ref CS) none H') ∧ (m.seq = true → 400 < lenR m.runs → ∀ H', Same H H' → E (.ref CL) none H') ∧
  (m.seq = true → lenR m.runs ≤ 400 → nd.inI 0 1000000000000000000000000000000 = false → ∀ H', Same H H' → E (.ref CN) none H') ∧ (m.seq = true → lenR m.runs ≤ 400 → nd.inI 0 1000000000000000000000000000000 = true → sd.state = false → ∀ H', Same H H' → E (.ref CT) none H')
theorem ok_after_rounds {CS CL CN CT : Addr} (D : DfD K mg "after_rounds" s_after_rounds [.non]) (T : Tx mg) (X1 : Ex K mg "InvalidNumber" CN) (G_checked_short_runs : HasX P w K mg base 6 "checked_short_runs" ["sequence"] (sp_checked_short_runs CS CL)) (G_is_within : Has P w K mg base 2 "is_within" ["value", "low", "high"] sp_is_within) (G_checked_state : HasX P w K mg base 3 "checked_state" ["state"] (sp_checked_state CT)) (G_growth_in : Has P w K mg base 7 "growth_in" ["runs"] sp_growth_in)
    (G_falling_rounds : Has P w K mg base 3 "falling_rounds" ["runs", "state"] sp_falling_rounds) (G_course_of : HasDv (.int 1000000000000000000000000000000) P w K mg base 4 "course_of" ["runs", "growth", "state", "most"] 3 sp_course_of) (G_fallen : Has P w K mg base 3 "fallen" ["runs", "state", "rounds"] sp_fallen) (G_continued : Has P w K mg base 1 "continued" ["states", "growth", "rounds"] sp_continued) :
    HasXN P w K mg base 8 "after_rounds" ["sequence", "rounds", "state"] 2 "state" (sp_after_rounds CS CL CN CT) := by
  refine hasXN_of D sc_after_rounds rfl (fun T kV doc pm an cdv ct us its h1 h2 => ?_) (fun T kV doc pm an cdv ct us its v h1 h2 => ?_) (fun vs H Q E h => ?_) (fun f cdv A outer s₀ H vs Q E hr h => ?_)
  · match us, its, h1, h2 with
    | [_, _, _], [_], _, _ => exact ⟨_, rfl, rfl⟩
  · match us, its, h1, h2 with
    | [_, _], [_], _, _ => exact ⟨_, rfl, rfl⟩
  · obtain ⟨_, _, _, _, _, _, rfl, _⟩ := h
    rfl
  · obtain ⟨v, u, z, m, nd, sd, rfl, hv, fm, hu, hz, fz, q, q1, q2, q3, q4⟩ := h
    refine ⟨_, (pss_cons (ps_set (i := 3) sc_after_rounds.nd rfl (by first | exact Or.inl rfl | exact Or.inr rfl) (pe_callXH G_checked_short_runs (takes_of rfl rfl rfl rfl) (hr.mono (by omega)) (by rfl) (pa_cons (pv 0) pa_nil)))
    (pss_cons (ps_if (pt_not (pt_val (pe_callH G_is_within (hr.mono (by omega)) (by rfl) (pa_cons (pv 1) (pa_cons pe_int (pa_cons (pe_glI T.c_MAX_ROUNDS (by rfl)) pa_nil)))))) (pss_one (ps_raise rfl (takes_of rfl rfl rfl rfl) (pmk_own PySem.F.excBase_ValueError X1.x X1.g X1.k (raises_own X1.b X1.t) (by exact rfl)))) pss_nil)
    (pss_cons (ps_set (i := 2) sc_after_rounds.nd rfl (by first | exact Or.inl rfl | exact Or.inr rfl) (pe_callXH G_checked_state (takes_of rfl rfl rfl rfl) (hr.mono (by omega)) (by rfl) (pa_cons (pv 2) pa_nil)))
    (pss_cons (ps_set (i := 4) sc_after_rounds.nd rfl (by first | exact Or.inl rfl | exact Or.inr rfl) (pe_callH G_growth_in (hr.mono (by omega)) (by rfl) (pa_cons (pv 3) pa_nil)))
    (pss_cons (ps_set (i := 5) sc_after_rounds.nd rfl (by first | exact Or.inl rfl | exact Or.inr rfl) (pe_callB (call_min2 rfl) (by rfl) T.n_min (by decide +kernel) (pa_cons (pv 1) (pa_cons (pe_callH G_falling_rounds (hr.mono (by omega)) (by rfl) (pa_cons (pv 3) (pa_cons (pv 2) pa_nil))) pa_nil))))
    (pss_cons (ps_set (i := 6) sc_after_rounds.nd rfl (by first | exact Or.inl rfl | exact Or.inr rfl) (pe_callH G_course_of.has (hr.mono (by omega)) (by rfl) (pa_cons (pv 3) (pa_cons (pv 4) (pa_cons (pe_callH G_fallen (hr.mono (by omega)) (by rfl) (pa_cons (pv 3) (pa_cons (pv 2) (pa_cons (pv 5) pa_nil)))) (pa_cons (pe_op op_sub (pv 1) (pv 5)) pa_nil))))))
    (pss_one (ps_ret (pe_callH G_continued (hr.mono (by omega)) (by rfl) (pa_cons (pv 6) (pa_cons (pv 4) (pa_cons (pe_op op_sub (pv 1) (pv 5)) pa_nil)))))))))))), ?_⟩
    refine ⟨_, rfl, v, m, rfl, hv, fm, fun c0 l4 H1 p s1 np hp => ?_, fun c0 H1 s1 => q1 c0 _ s1, fun c0 c1 H1 s1 => q2 c0 c1 _ s1⟩
    have ok := (seq_rp hv c0).2
    have pos : ∀ r ∈ m.runs, 1 ≤ r.2 := fun r hr => (ok.2.1 r hr).2.1
    refine ⟨_, rfl, u, nd, 0, _, rfl, hu.same s1, _, rfl, ?_⟩
    by_cases c1 : nd.inI 0 1000000000000000000000000000000 = true
    · refine iteN (by rw [c1]; rfl) ?_
      refine ⟨_, rfl, z, sd, rfl, hz.same s1, fz, fun c2 H2 v2 s2 h2 => ?_, fun c2 H2 s2 => q4 c0 l4 c1 c2 _ (s1.trans s2)⟩
      obtain ⟨n, k, en, af, q9⟩ := q c0 l4 c1 c2
      subst en
      cases hu
      have n01 : 0 ≤ n ∧ n ≤ 1000000000000000000000000000000 := of_decide_eq_true c1
      have nb : n.natAbs < 2 ^ 100 := Nat.lt_of_le_of_lt (m := 1000000000000000000000000000000) (by omega) (by decide)
      have so : StOk sd.stt := (state_rp hz c2).2
      have s12 := s1.trans s2
      refine ⟨_, rfl, p, _, rfl, hp.same s2, ok, l4, fun H3 v3 s3 h3 => ?_⟩
      refine ⟨_, rfl, _, rfl, _, rfl, p, _, v2, _, rfl, (hp.same s2).same s3, ok, l4, h2.same s3, fun H4 s4 => ?_⟩
      have fb := ff_bd (rs := m.runs) (st := sd.stt) n01.1
      have s24 := s3.trans s4
      refine ⟨_, _, rfl, ?_⟩
      have em : (if frR m.runs sd.stt < n then frR m.runs sd.stt else n) = ff m.runs sd.stt n := rfl
      rw [em]
      refine ⟨_, rfl, _, rfl, _, rfl, _, rfl, _, rfl, p, _, v2, _, _, rfl, (hp.same s2).same s24, ok, l4, h2.same s24, fun h => fr_some h fb.1 fb.2.2, Nat.lt_of_le_of_lt (m := n.natAbs) (by omega) (Nat.lt_of_lt_of_le nb (Nat.pow_le_pow_right (by decide) (by decide))), fun H5 v5 s5 h5 => ?_⟩
      have s25 := s24.trans s5
      refine ⟨_, rfl, _, rfl, _, _, rfl, rfl, p, _, v3, v5, _, _, _, k, rfl, (hp.same s2).same s25, ok, (h3.same s4).same s5, h5, af.ce, af.few, fun H6 p6 s6 n6 h6 => ?_⟩
      have fo := fn_ok pos so fb.1 fb.2.2
      refine ⟨_, rfl, _, rfl, _, rfl, _, rfl, _, _, rfl, rfl, p6, v3, _, _, _, rfl, h6, ((h3.same s4).same s5).same s6, crs_ok ok.kinds fo, ?_, ?_, ?_, ?_, ?_, fun H7 v7 s7 h7 => q9 _ _ (s12.trans (s25.trans (s6.trans s7))) h7⟩
      · intro e
        have := congrArg List.length e
        rw [crs_len] at this
        cases this
      · rw [crs_len]
        have := af.few
        omega
      · omega
      · exact Nat.lt_of_le_of_lt (m := n.natAbs) (by omega) (Nat.lt_of_lt_of_le nb (Nat.pow_le_pow_right (by decide) (by decide)))
      · rw [crs_len, crs_last]
        intro hk
        refine ⟨fun e => ?_, fun g0 e => ⟨af.gro (by rw [e]; intro z; cases z) (by omega), gr_small pos l4 e⟩⟩
        have := af.ret e (by omega)
        omega
    · have c1 : nd.inI 0 1000000000000000000000000000000 = false := by simpa using c1
      exact iteP (by rw [c1]; rfl) (q3 c0 l4 c1 _ s1)
end
end UP

set_option Elab.async false
set_option linter.all false
set_option maxRecDepth 100000
set_option maxHeartbeats 4000000
set_option pp.maxSteps 500
namespace UP
open PySem PySem.Spec PyProof.Rows L2
theorem fr_le {rs : List Run} {r : Run} (pos : ∀ r ∈ rs, 1 ≤ r.2) (h : 1 ≤ r.2) : frR rs (some r) ≤ r.2 + 1 := by
  show (if r.2 < lenR rs ∨ fallR rs r.1 ≤ 0 then 0 else (r.2 - lenR rs) / fallR rs r.1 + 1) ≤ r.2 + 1
  split
  · omega
  · rename_i c
    have c1 : ¬ r.2 < lenR rs := fun z => c (.inl z)
    have := Int.ediv_le_self (a := r.2 - lenR rs) (fallR rs r.1) (by omega)
    have c2 := cntK_pos (k := r.1) pos
    have c3 := cntK_le (k := r.1) pos
    omega
/-- the number may be multiplied -/
def StB (st : Option Run) : Prop := ∀ r, st = some r → r.2.natAbs < 2 ^ 400000
theorem fr_bits {rs : List Run} {st : Option Run} (pos : ∀ r ∈ rs, 1 ≤ r.2) (so : StOk st) (h : StB st) : (frR rs st).natAbs < 2 ^ 500000 := by
  have h5 : (2 : Nat) ^ 400000 < 2 ^ 500000 := Nat.pow_lt_pow_right (by decide) (by decide)
  have h0 := frR_nonneg (rs := rs) (st := st)
  cases st with
  | none => exact Nat.pow_pos (by decide)
  | some r =>
    have h1 := fr_le pos (so r rfl).2
    have h2 := h r rfl
    generalize (2 : Nat) ^ 400000 = A at h2 h5
    generalize (2 : Nat) ^ 500000 = B at h5 ⊢
    have := (so r rfl).2
    omega
theorem atI_neg1 {xs : List V} {v : V} {k : Nat} (l : xs.length = k + 1) (e : xs[k]? = some v) : atI xs (-1) = some v := by
  rcases List.eq_nil_or_concat xs with z | ⟨ys, y, z⟩
  · rw [z] at l
    cases l
  · rw [List.concat_eq_append] at z
    subst z
    rw [List.length_append] at l
    have l : ys.length = k := by simpa using l
    rw [List.getElem?_append_right (by omega), l, Nat.sub_self] at e
    cases e
    exact atI_last _ _
def backR (l : List (Option Run)) (g : Run) : Nat → Nat
  | 0 => 0
  | s + 1 => if agB g (l.getD s none) (l.getD (s + 1) none) = true then backR l g s else s + 1
/-- the states behind the falling rounds -/
abbrev fallenR (rs : List Run) (st : Option Run) : Option Run := fnR rs st (frR rs st)
section
variable {P : Program} {w : World} {K : PySem.W.Frag} {mg : Str → Option Value} {base : Heap}
/-! return_of: slots 0:sequence 1:state 2:runs 3:falling 4:states 5:start -/
abbrev s_return_of : Stmt := topS 56
theorem sc_return_of : FnScope ["sequence", "state", "runs", "falling", "states", "start"] ["sequence", "state"] (defScope s_return_of) := ⟨rfl, rfl, rfl, by decide +kernel, rfl, by decide +kernel, by decide +kernel⟩
def sp_return_of (CS CL CT : Addr) : Sp := fun vs H Q E => ∃ (v z : V) (m sd : Dat), vs = [v, z] ∧ Rp H v m ∧ m.fits ∧ Rp H z sd ∧ sd.fit2 ∧
  (m.seq = true → lenR m.runs ≤ 400 → sd.state = true → (grR m.runs ≠ none → ∀ H', Same H H' → Q .non H') ∧ (grR m.runs = none → StB sd.stt ∧ ∃ k : Nat, CEnd m.runs none 1000000000000000000000000000000 (fallenR m.runs sd.stt) k ∧ k ≤ 100000 ∧
    ∀ H' t, Same H H' → H' t = some (.tup [.int (frR m.runs sd.stt + startR (courseR m.runs (fallenR m.runs sd.stt) k)), .int (k - startR (courseR m.runs (fallenR m.runs sd.stt) k))]) → Q (.ref t) H')) ∧
  (m.seq = false → ∀ H', Same H H' → E (.ref CS) none H') ∧ (m.seq = true → 400 < lenR m.runs → ∀ H', Same H H' → E (.ref CL) none H') ∧ (m.seq = true → lenR m.runs ≤ 400 → sd.state = false → ∀ H', Same H H' → E (.ref CT) none H')
theorem ok_return_of {CS CL CT : Addr} (D : DfD K mg "return_of" s_return_of [.non]) (T : Tx mg) (G_checked_short_runs : HasX P w K mg base 6 "checked_short_runs" ["sequence"] (sp_checked_short_runs CS CL)) (G_checked_state : HasX P w K mg base 3 "checked_state" ["state"] (sp_checked_state CT)) (G_growth_in : Has P w K mg base 7 "growth_in" ["runs"] sp_growth_in)
    (G_falling_rounds : Has P w K mg base 3 "falling_rounds" ["runs", "state"] sp_falling_rounds) (G_course_of : HasDv (.int 1000000000000000000000000000000) P w K mg base 4 "course_of" ["runs", "growth", "state", "most"] 3 sp_course_of) (G_fallen : Has P w K mg base 3 "fallen" ["runs", "state", "rounds"] sp_fallen) :
    HasXN P w K mg base 8 "return_of" ["sequence", "state"] 1 "state" (sp_return_of CS CL CT) := by
  refine hasXN_of D sc_return_of rfl (fun T kV doc pm an cdv ct us its h1 h2 => ?_) (fun T kV doc pm an cdv ct us its v h1 h2 => ?_) (fun vs H Q E h => ?_) (fun f cdv A outer s₀ H vs Q E hr h => ?_)
  · match us, its, h1, h2 with
    | [_, _], [_], _, _ => exact ⟨_, rfl, rfl⟩
  · match us, its, h1, h2 with
    | [_], [_], _, _ => exact ⟨_, rfl, rfl⟩
  · obtain ⟨_, _, _, _, rfl, _⟩ := h
    rfl
  · obtain ⟨v, z, m, sd, rfl, hv, fm, hz, fz, q, q1, q2, q4⟩ := h
    refine ⟨_, (pss_cons (ps_set (i := 2) sc_return_of.nd rfl (by first | exact Or.inl rfl | exact Or.inr rfl) (pe_callXH G_checked_short_runs (takes_of rfl rfl rfl rfl) (hr.mono (by omega)) (by rfl) (pa_cons (pv 0) pa_nil)))
    (pss_cons (ps_set (i := 1) sc_return_of.nd rfl (by first | exact Or.inl rfl | exact Or.inr rfl) (pe_callXH G_checked_state (takes_of rfl rfl rfl rfl) (hr.mono (by omega)) (by rfl) (pa_cons (pv 1) pa_nil)))
    (pss_cons (ps_if (pt_cmpR op_notN (pe_callH G_growth_in (hr.mono (by omega)) (by rfl) (pa_cons (pv 2) pa_nil)) pe_non (nomark _)) (pss_one (ps_ret pe_non)) pss_nil)
    (pss_cons (ps_set (i := 3) sc_return_of.nd rfl (by first | exact Or.inl rfl | exact Or.inr rfl) (pe_callH G_falling_rounds (hr.mono (by omega)) (by rfl) (pa_cons (pv 2) (pa_cons (pv 1) pa_nil))))
    (pss_cons (ps_set (i := 4) sc_return_of.nd rfl (by first | exact Or.inl rfl | exact Or.inr rfl) (pe_callDv G_course_of (hr.mono (by omega)) (by rfl) (pa_cons (pv 2) (pa_cons pe_non (pa_cons (pe_callH G_fallen (hr.mono (by omega)) (by rfl) (pa_cons (pv 2) (pa_cons (pv 1) (pa_cons (pv 3) pa_nil)))) pa_nil)))))
    (pss_cons (ps_set (i := 5) sc_return_of.nd rfl (by first | exact Or.inl rfl | exact Or.inr rfl) (pe_bm PySem.F.plainAttrs_list PySem.F.slot_list_index PySem.F.type_list_index (mt_indexD (room65 hr)) (pv 4) (pa_cons (pe_ix ix_list (pv 4) (pe_un un_neg pe_int) (fun _ _ => rfl)) pa_nil)))
    (pss_one (ps_ret (pe_tup (pa_cons (pe_op op_add (pv 3) (pv 5)) (pa_cons (pe_op op_sub (pe_op op_sub (pe_callB call_len_seq (by rfl) T.n_len (by decide +kernel) (pa_cons (pv 4) pa_nil)) pe_int) (pv 5)) pa_nil))))))))))), ?_⟩
    refine ⟨_, rfl, v, m, rfl, hv, fm, fun c0 l4 H1 p s1 np hp => ?_, fun c0 H1 s1 => q1 c0 _ s1, fun c0 c1 H1 s1 => q2 c0 c1 _ s1⟩
    have ok := (seq_rp hv c0).2
    have pos : ∀ r ∈ m.runs, 1 ≤ r.2 := fun r hr => (ok.2.1 r hr).2.1
    refine ⟨_, rfl, z, sd, rfl, hz.same s1, fz, fun c2 H2 v2 s2 h2 => ?_, fun c2 H2 s2 => q4 c0 l4 c2 _ (s1.trans s2)⟩
    obtain ⟨qg, qn⟩ := q c0 l4 c2
    have so : StOk sd.stt := (state_rp hz c2).2
    have s12 := s1.trans s2
    refine ⟨_, rfl, p, _, rfl, hp.same s2, ok, l4, fun H3 v3 s3 h3 => ?_⟩
    cases eg : grR m.runs with
    | some g =>
      rw [eg] at h3
      obtain ⟨tg, rfl, _⟩ := h3
      exact ⟨rfl, _, rfl, iteP rfl (qg (by rw [eg]; intro z; cases z) _ (s12.trans s3))⟩
    | none =>
      rw [eg] at h3
      cases h3
      refine ⟨rfl, _, rfl, iteN rfl ?_⟩
      obtain ⟨sb, k, ce, few, q9⟩ := qn eg
      refine ⟨_, rfl, _, rfl, p, _, v2, _, rfl, (hp.same s2).same s3, ok, l4, h2.same s3, fun H4 s4 => ?_⟩
      have s24 := s3.trans s4
      refine ⟨_, rfl, _, rfl, _, rfl, _, rfl, p, _, v2, _, _, rfl, (hp.same s2).same s24, ok, l4, h2.same s24, fun h => fr_some h frR_nonneg (Int.le_refl _), fr_bits pos so sb, fun H5 v5 s5 h5 => ?_⟩
      have s25 := s24.trans s5
      refine ⟨p, _, .non, v5, none, _, _, k, rfl, (hp.same s2).same s25, ok, rfl, h5, ce, few, fun H6 p6 s6 n6 h6 => ?_⟩
      have fo := fn_ok (n := frR m.runs sd.stt) pos so frR_nonneg (Int.le_refl _)
      obtain ⟨xs, vl, hx, lx, evl, hvl⟩ := h6.at (crs_at (Nat.le_refl k))
      rw [crs_len] at lx
      have oks := crs_ok (n := k) ok.kinds fo
      have sl : (courseR m.runs (fallenR m.runs sd.stt) k)[startR (courseR m.runs (fallenR m.runs sd.stt) k)]? = some (itS m.runs (fallenR m.runs sd.stt) k) := by
        have lt : startR (courseR m.runs (fallenR m.runs sd.stt) k) < (courseR m.runs (fallenR m.runs sd.stt) k).length := by
          refine List.findIdx_lt_length_of_exists ⟨itS m.runs (fallenR m.runs sd.stt) k, List.mem_of_getElem? (crs_at (Nat.le_refl k)), ?_⟩
          exact decide_eq_true crs_last.symm
        have := List.findIdx_getElem (w := lt)
        rw [List.getElem?_eq_getElem lt]
        exact congrArg some ((of_decide_eq_true this).trans crs_last)
      refine ⟨_, rfl, .inl ⟨rfl, _, SqL.of hx⟩, _, rfl, 1, rfl, p6, xs, -1, vl, rfl, rfl, .of hx, atI_neg1 lx evl, p6, vl, dOt (itS m.runs (fallenR m.runs sd.stt) k), (courseR m.runs (fallenR m.runs sd.stt) k).map dOt, startR (courseR m.runs (fallenR m.runs sd.stt) k), dOt (itS m.runs (fallenR m.runs sd.stt) k), rfl, rfl, dp_stsC h6, dp_o hvl, shaped_stsC oks, shaped_o (itS_ok ok.kinds fo k), by rw [List.getElem?_map, sl]; rfl, by rw [eqv_o]; exact decide_eq_true rfl, fun j z hj e => ?_, ?_⟩
      · rw [List.getElem?_map] at e
        cases hz : (courseR m.runs (fallenR m.runs sd.stt) k)[j]? with
        | none => rw [hz] at e; cases e
        | some s =>
          rw [hz] at e
          cases e
          rw [eqv_o]
          have := List.not_of_lt_findIdx (p := fun s => decide (s = (courseR m.runs (fallenR m.runs sd.stt) k).getLast?.getD none)) (xs := courseR m.runs (fallenR m.runs sd.stt) k) hj
          have lt : j < (courseR m.runs (fallenR m.runs sd.stt) k).length := (List.getElem?_eq_some_iff.mp hz).1
          rw [List.getElem?_eq_getElem lt] at hz
          cases hz
          exact decide_eq_false fun e => (of_decide_eq_false this) (e.trans crs_last.symm)
      · refine ⟨_, rfl, _, rfl, _, _, rfl, rfl, _, rfl, p6, xs, rfl, .inl (.of hx), _, _, rfl, rfl, _, rfl, _, _, rfl, rfl, (by show 2 ≤ sizeLine; decide), fun t nt => ?_⟩
        refine q9 _ t (s12.trans (s25.trans (s6.trans (same_upd nt)))) ?_
        rw [upd_same, lx, show ((k + 1 : Nat) : Int) - 1 = (k : Int) by omega]
/-! growing_from: slots 0:sequence 1:state 2:runs 3:growth 4:falling 5:states 6:start -/
abbrev s_growing_from : Stmt := topS 57
theorem sc_growing_from : FnScope ["sequence", "state", "runs", "growth", "falling", "states", "start"] ["sequence", "state"] (defScope s_growing_from) := ⟨rfl, rfl, rfl, by decide +kernel, rfl, by decide +kernel, by decide +kernel⟩
def sp_growing_from (CS CL CT : Addr) : Sp := fun vs H Q E => ∃ (v z : V) (m sd : Dat), vs = [v, z] ∧ Rp H v m ∧ m.fits ∧ Rp H z sd ∧ sd.fit2 ∧
  (m.seq = true → lenR m.runs ≤ 400 → sd.state = true → (grR m.runs = none → ∀ H', Same H H' → Q .non H') ∧ (∀ g, grR m.runs = some g → StB sd.stt ∧ ∃ k : Nat, CEnd m.runs (some g) 1000000000000000000000000000000 (fallenR m.runs sd.stt) k ∧ k ≤ 100000 ∧
    ∀ H', Same H H' → Q (.int (frR m.runs sd.stt + backR (courseR m.runs (fallenR m.runs sd.stt) k) g k)) H')) ∧
  (m.seq = false → ∀ H', Same H H' → E (.ref CS) none H') ∧ (m.seq = true → 400 < lenR m.runs → ∀ H', Same H H' → E (.ref CL) none H') ∧ (m.seq = true → lenR m.runs ≤ 400 → sd.state = false → ∀ H', Same H H' → E (.ref CT) none H')
theorem ok_growing_from {CS CL CT : Addr} (D : DfD K mg "growing_from" s_growing_from [.non]) (T : Tx mg) (G_checked_short_runs : HasX P w K mg base 6 "checked_short_runs" ["sequence"] (sp_checked_short_runs CS CL)) (G_checked_state : HasX P w K mg base 3 "checked_state" ["state"] (sp_checked_state CT)) (G_growth_in : Has P w K mg base 7 "growth_in" ["runs"] sp_growth_in)
    (G_falling_rounds : Has P w K mg base 3 "falling_rounds" ["runs", "state"] sp_falling_rounds) (G_course_of : HasDv (.int 1000000000000000000000000000000) P w K mg base 4 "course_of" ["runs", "growth", "state", "most"] 3 sp_course_of) (G_fallen : Has P w K mg base 3 "fallen" ["runs", "state", "rounds"] sp_fallen) (G_adds_growth : Has P w K mg base 2 "adds_growth" ["growth", "before", "after"] sp_adds_growth) :
    HasXN P w K mg base 8 "growing_from" ["sequence", "state"] 1 "state" (sp_growing_from CS CL CT) := by
  refine hasXN_of D sc_growing_from rfl (fun T kV doc pm an cdv ct us its h1 h2 => ?_) (fun T kV doc pm an cdv ct us its v h1 h2 => ?_) (fun vs H Q E h => ?_) (fun f cdv A outer s₀ H vs Q E hr h => ?_)
  · match us, its, h1, h2 with
    | [_, _], [_], _, _ => exact ⟨_, rfl, rfl⟩
  · match us, its, h1, h2 with
    | [_], [_], _, _ => exact ⟨_, rfl, rfl⟩
  · obtain ⟨_, _, _, _, rfl, _⟩ := h
    rfl
  · obtain ⟨v, z, m, sd, rfl, hv, fm, hz, fz, q, q1, q2, q4⟩ := h
    refine ⟨_, (pss_cons (ps_set (i := 2) sc_growing_from.nd rfl (by first | exact Or.inl rfl | exact Or.inr rfl) (pe_callXH G_checked_short_runs (takes_of rfl rfl rfl rfl) (hr.mono (by omega)) (by rfl) (pa_cons (pv 0) pa_nil)))
    (pss_cons (ps_set (i := 1) sc_growing_from.nd rfl (by first | exact Or.inl rfl | exact Or.inr rfl) (pe_callXH G_checked_state (takes_of rfl rfl rfl rfl) (hr.mono (by omega)) (by rfl) (pa_cons (pv 1) pa_nil)))
    (pss_cons (ps_set (i := 3) sc_growing_from.nd rfl (by first | exact Or.inl rfl | exact Or.inr rfl) (pe_callH G_growth_in (hr.mono (by omega)) (by rfl) (pa_cons (pv 2) pa_nil)))
    (pss_cons (ps_if (pt_cmpR op_isN (pv 3) pe_non (nomark _)) (pss_one (ps_ret pe_non)) pss_nil)
    (pss_cons (ps_set (i := 4) sc_growing_from.nd rfl (by first | exact Or.inl rfl | exact Or.inr rfl) (pe_callH G_falling_rounds (hr.mono (by omega)) (by rfl) (pa_cons (pv 2) (pa_cons (pv 1) pa_nil))))
    (pss_cons (ps_set (i := 5) sc_growing_from.nd rfl (by first | exact Or.inl rfl | exact Or.inr rfl) (pe_callDv G_course_of (hr.mono (by omega)) (by rfl) (pa_cons (pv 2) (pa_cons (pv 3) (pa_cons (pe_callH G_fallen (hr.mono (by omega)) (by rfl) (pa_cons (pv 2) (pa_cons (pv 1) (pa_cons (pv 4) pa_nil)))) pa_nil)))))
    (pss_cons (ps_set (i := 6) sc_growing_from.nd rfl (by first | exact Or.inl rfl | exact Or.inr rfl) (pe_op op_sub (pe_callB call_len_seq (by rfl) T.n_len (by decide +kernel) (pa_cons (pv 5) pa_nil)) pe_int))
    (pss_cons (ps_while (passes_of rfl) (PW.pt (pw_and (pt_cmpR op_gt (pv 6) pe_int (nomark _)) (pw_and1 (pt_val (pe_callH G_adds_growth (hr.mono (by omega)) (by rfl) (pa_cons (pv 3) (pa_cons (pe_ix ix_list (pv 5) (pe_op op_sub (pv 6) pe_int) (fun _ _ => rfl)) (pa_cons (pe_ix ix_list (pv 5) (pv 6) (fun _ _ => rfl)) pa_nil))))))))
      (pss_one (ps_aug (i := 6) sc_growing_from.nd rfl (by first | exact Or.inl rfl | exact Or.inr rfl) pe_int ip_sub)))
    (pss_one (ps_ret (pe_op op_add (pv 4) (pv 6)))))))))))), ?_⟩
    refine ⟨_, rfl, v, m, rfl, hv, fm, fun c0 l4 H1 p s1 np hp => ?_, fun c0 H1 s1 => q1 c0 _ s1, fun c0 c1 H1 s1 => q2 c0 c1 _ s1⟩
    have ok := (seq_rp hv c0).2
    have pos : ∀ r ∈ m.runs, 1 ≤ r.2 := fun r hr => (ok.2.1 r hr).2.1
    refine ⟨_, rfl, z, sd, rfl, hz.same s1, fz, fun c2 H2 v2 s2 h2 => ?_, fun c2 H2 s2 => q4 c0 l4 c2 _ (s1.trans s2)⟩
    obtain ⟨qn, qg⟩ := q c0 l4 c2
    have so : StOk sd.stt := (state_rp hz c2).2
    have s12 := s1.trans s2
    refine ⟨_, rfl, p, _, rfl, hp.same s2, ok, l4, fun H3 v3 s3 h3 => ?_⟩
    cases eg : grR m.runs with
    | none =>
      rw [eg] at h3
      cases h3
      exact ⟨_, rfl, rfl, _, rfl, iteP rfl (qn eg _ (s12.trans s3))⟩
    | some g =>
      have og : StOk (some g) := by rw [← eg]; exact gr_ok ok
      rw [eg] at h3
      obtain ⟨tg, rfl, htg⟩ := id h3
      refine ⟨_, rfl, rfl, _, rfl, iteN rfl ?_⟩
      obtain ⟨sb, k, ce, few, q9⟩ := qg g eg
      refine ⟨_, rfl, _, rfl, p, _, v2, _, rfl, (hp.same s2).same s3, ok, l4, h2.same s3, fun H4 s4 => ?_⟩
      have s24 := s3.trans s4
      refine ⟨_, rfl, _, rfl, _, rfl, _, rfl, _, rfl, p, _, v2, _, _, rfl, (hp.same s2).same s24, ok, l4, h2.same s24, fun h => fr_some h frR_nonneg (Int.le_refl _), fr_bits pos so sb, fun H5 v5 s5 h5 => ?_⟩
      have s25 := s24.trans s5
      refine ⟨p, _, _, v5, some g, _, _, k, rfl, (hp.same s2).same s25, ok, (h3.same s4).same s5, h5, ce, few, fun H6 p6 s6 n6 h6 => ?_⟩
      have fo := fn_ok (n := frR m.runs sd.stt) pos so frR_nonneg (Int.le_refl _)
      have oks := crs_ok (n := k) ok.kinds fo
      obtain ⟨xs, _, hx, lx, _, _⟩ := h6.at (crs_at (Nat.le_refl k))
      rw [crs_len] at lx
      refine ⟨_, rfl, p6, xs, rfl, .inl (.of hx), _, _, rfl, rfl, ?_⟩
      rw [lx]
      dsimp only
      rw [show ((k + 1 : Nat) : Int) - 1 = (k : Int) by omega]
      have h36 := ((h3.same s4).same s5).same s6
      generalize hL : courseR m.runs (fallenR m.runs sd.stt) k = L at *
      refine ⟨fun s σ H' => s ≤ k ∧ σ = [some v, some v2, some (.ref p), some (.ref tg), some (.int (frR m.runs sd.stt)), some (.ref p6), some (.int (s : Nat))] ∧ Same H6 H' ∧ backR L g s = backR L g k, ⟨k, Nat.le_refl _, rfl, Same.refl _, rfl⟩, fun s σ H7 hW => ?_⟩
      obtain ⟨sk, rfl, s7, eb⟩ := hW
      have s17 := s12.trans (s25.trans (s6.trans s7))
      refine ⟨_, rfl, _, _, rfl, rfl, _, rfl, ?_⟩
      cases s with
      | zero =>
        refine iteN rfl (iteF ⟨_, rfl, _, rfl, _, _, rfl, rfl, ?_⟩)
        have q9 := q9 _ s17
        rw [← eb] at q9
        exact q9
      | succ s =>
        refine iteP (decide_eq_true (by show (0 : Int) < ((s + 1 : Nat) : Int); omega)) ?_
        obtain ⟨b, hb⟩ : ∃ b, L[s]? = some b := ⟨_, List.getElem?_eq_getElem (by rw [← hL, crs_len]; omega)⟩
        obtain ⟨a, ha⟩ : ∃ a, L[s + 1]? = some a := ⟨_, List.getElem?_eq_getElem (by rw [← hL, crs_len]; omega)⟩
        obtain ⟨ys, vb, hy, ly, evb, hvb⟩ := (h6.same s7).at hb
        obtain ⟨ys2, va, hy2, _, eva, hva⟩ := (h6.same s7).at ha
        rw [hy] at hy2
        cases hy2
        refine ⟨_, rfl, _, rfl, _, rfl, _, _, rfl, rfl, p6, ys, _, vb, rfl, rfl, .of hy, by rw [show ((s + 1 : Nat) : Int) - 1 = (s : Int) by omega]; exact atI_nat evb, _, rfl, _, rfl, p6, ys, _, va, rfl, rfl, .of hy, atI_nat eva, _, vb, va, g, b, a, rfl, h36.same s7, hvb, hva, og, oks _ (List.mem_of_getElem? hb), oks _ (List.mem_of_getElem? ha), fun H8 s8 => ⟨_, rfl, ?_⟩⟩
        have e1 : backR L g (s + 1) = if agB g b a = true then backR L g s else s + 1 := by
          show (if agB g (L.getD s none) (L.getD (s + 1) none) = true then backR L g s else s + 1) = _
          rw [List.getD_eq_getElem?_getD, List.getD_eq_getElem?_getD, hb, ha]
          rfl
        by_cases c : agB g b a = true
        · rw [if_pos c] at e1
          refine iteP c ⟨fun σ' H' => σ' = [some v, some v2, some (.ref p), some (.ref tg), some (.int (frR m.runs sd.stt)), some (.ref p6), some (.int (s : Nat))] ∧ Same H6 H', fun σ' H' h => ⟨s, Nat.lt_succ_self _, by omega, h.1, h.2, by rw [← e1, eb]⟩, ?_⟩
          refine ⟨_, rfl, _, _, rfl, rfl, ?_, s7.trans s8⟩
          dsimp only
          rw [show ((s + 1 : Nat) : Int) - 1 = (s : Int) by omega]
          rfl
        · have c : agB g b a = false := by simpa using c
          rw [if_neg (by rw [c]; decide)] at e1
          refine iteN c ⟨_, rfl, _, rfl, _, _, rfl, rfl, ?_⟩
          have q9 := q9 _ (s17.trans s8)
          rw [← eb, e1] at q9
          exact q9
end
end UP

set_option Elab.async false
set_option linter.all false
set_option maxRecDepth 100000
set_option maxHeartbeats 4000000
set_option pp.maxSteps 500
namespace UP
open PySem PySem.Spec PyProof.Rows L2
/-- what a call says: its door, its parts, the word that is due -/
inductive Err : Int → List Dat → Str → Prop
  | d0q {m nd sd : Dat} (fm : m.fits) (fz : sd.fit2) (h : m.seq = false) : Err 0 [m, nd, sd] "sequence"
  | d0l {m nd sd : Dat} (fm : m.fits) (fz : sd.fit2) (q0 : m.seq = true) (h : 400 < lenR m.runs) : Err 0 [m, nd, sd] "long"
  | d0n {m nd sd : Dat} (fm : m.fits) (fz : sd.fit2) (q0 : m.seq = true) (l0 : lenR m.runs ≤ 400) (h : nd.inI 0 1000000000000000000000000000000 = false) : Err 0 [m, nd, sd] "number"
  | d0s {m nd sd : Dat} (fm : m.fits) (fz : sd.fit2) (q0 : m.seq = true) (l0 : lenR m.runs ≤ 400) (c1 : nd.inI 0 1000000000000000000000000000000 = true) (h : sd.state = false) : Err 0 [m, nd, sd] "state"
  | d0o {m nd sd : Dat} (fm : m.fits) (fz : sd.fit2) (q0 : m.seq = true) (l0 : lenR m.runs ≤ 400) (c1 : nd.inI 0 1000000000000000000000000000000 = true) (c2 : sd.state = true) (h : ∃ (n : Int) (k : Nat), nd = .int n ∧ AftOk m.runs sd.stt n k) : Err 0 [m, nd, sd] "none"
  | d1q {m : Dat} (fm : m.fits) (h : m.seq = false) : Err 1 [m] "sequence"
  | d1l {m : Dat} (fm : m.fits) (q0 : m.seq = true) (h : 400 < lenR m.runs) : Err 1 [m] "long"
  | d1o {m : Dat} (fm : m.fits) (q0 : m.seq = true) (l0 : lenR m.runs ≤ 400) : Err 1 [m] "none"
  | d2q {m sd : Dat} (fm : m.fits) (fz : sd.fit2) (h : m.seq = false) : Err 2 [m, sd] "sequence"
  | d2l {m sd : Dat} (fm : m.fits) (fz : sd.fit2) (q0 : m.seq = true) (h : 400 < lenR m.runs) : Err 2 [m, sd] "long"
  | d2s {m sd : Dat} (fm : m.fits) (fz : sd.fit2) (q0 : m.seq = true) (l0 : lenR m.runs ≤ 400) (h : sd.state = false) : Err 2 [m, sd] "state"
  | d2o {m sd : Dat} (fm : m.fits) (fz : sd.fit2) (q0 : m.seq = true) (l0 : lenR m.runs ≤ 400) (c2 : sd.state = true) (h : grR m.runs = none → StB sd.stt ∧ ∃ k : Nat, CEnd m.runs none 1000000000000000000000000000000 (fallenR m.runs sd.stt) k ∧ k ≤ 100000) : Err 2 [m, sd] "none"
  | d3q {m sd : Dat} (fm : m.fits) (fz : sd.fit2) (h : m.seq = false) : Err 3 [m, sd] "sequence"
  | d3l {m sd : Dat} (fm : m.fits) (fz : sd.fit2) (q0 : m.seq = true) (h : 400 < lenR m.runs) : Err 3 [m, sd] "long"
  | d3s {m sd : Dat} (fm : m.fits) (fz : sd.fit2) (q0 : m.seq = true) (l0 : lenR m.runs ≤ 400) (h : sd.state = false) : Err 3 [m, sd] "state"
  | d3o {m sd : Dat} (fm : m.fits) (fz : sd.fit2) (q0 : m.seq = true) (l0 : lenR m.runs ≤ 400) (c2 : sd.state = true) (h : ∀ g, grR m.runs = some g → StB sd.stt ∧ ∃ k : Nat, CEnd m.runs (some g) 1000000000000000000000000000000 (fallenR m.runs sd.stt) k ∧ k ≤ 100000) : Err 3 [m, sd] "none"
theorem tup2_of {H : Hp} {v : V} {a b : Dat} (h : Rp H v (.tup [a, b])) : ∃ t x y, v = .ref t ∧ H t = some (.tup [x, y]) ∧ Rp H x a ∧ Rp H y b := by
  cases h with
  | tup e p =>
    cases p with
    | cons h1 p =>
      cases p with
      | cons h2 p =>
        cases p
        exact ⟨_, _, _, rfl, e, h1, h2⟩
theorem tup3_of {H : Hp} {v : V} {a b c : Dat} (h : Rp H v (.tup [a, b, c])) : ∃ t x y z, v = .ref t ∧ H t = some (.tup [x, y, z]) ∧ Rp H x a ∧ Rp H y b ∧ Rp H z c := by
  cases h with
  | tup e p =>
    cases p with
    | cons h1 p =>
      cases p with
      | cons h2 p =>
        cases p with
        | cons h3 p =>
          cases p
          exact ⟨_, _, _, _, rfl, e, h1, h2, h3⟩
theorem tup1_of {H : Hp} {v : V} {a : Dat} (h : Rp H v (.tup [a])) : ∃ t x, v = .ref t ∧ H t = some (.tup [x]) ∧ Rp H x a := by
  cases h with
  | tup e p =>
    cases p with
    | cons h1 p =>
      cases p
      exact ⟨_, _, rfl, e, h1⟩
section
variable {P : Program} {w : World} {K : PySem.W.Frag} {mg : Str → Option Value} {base : Heap}
/-! _law_error: slots 0:door 1:parts 2:caught 3:e -/
abbrev s_law_error : Stmt := topS 63
theorem sc_law_error : FnScope ["door", "parts", "caught", "e"] ["door", "parts"] (defScope s_law_error) := ⟨rfl, rfl, rfl, by decide +kernel, rfl, by decide +kernel, by decide +kernel⟩
def sp_law_error : Sp := fun vs H Q _ => ∃ (k : Int) (pq : V) (ps : List Dat) (due : Str), vs = [.int k, pq] ∧ Rp H pq (.tup ps) ∧ Err k ps due ∧ ∀ H', Same H H' → Q (.str due) H'
theorem ok_law_error {CA : Str → Addr} (D : Df K mg "_law_error" s_law_error) (T : Tx mg) (CM : Cmg mg CA) (FS : ClsF K CA "InvalidSequence") (FT : ClsF K CA "InvalidState") (FN : ClsF K CA "InvalidNumber") (FL : ClsF K CA "TooLong") (G_law_kind_of : Has P w K mg base 1 "_law_kind_of" ["e"] (sp_law_kind_of K CA))
    (G_after_rounds : HasX P w K mg base 8 "after_rounds" ["sequence", "rounds", "state"] (sp_after_rounds (CA "InvalidSequence") (CA "TooLong") (CA "InvalidNumber") (CA "InvalidState"))) (G_growth_of : HasX P w K mg base 8 "growth_of" ["sequence"] (sp_growth_of (CA "InvalidSequence") (CA "TooLong")))
    (G_return_of : HasX P w K mg base 8 "return_of" ["sequence", "state"] (sp_return_of (CA "InvalidSequence") (CA "TooLong") (CA "InvalidState"))) (G_growing_from : HasX P w K mg base 8 "growing_from" ["sequence", "state"] (sp_growing_from (CA "InvalidSequence") (CA "TooLong") (CA "InvalidState"))) :
    Has P w K mg base 9 "_law_error" ["door", "parts"] sp_law_error := by
  refine has_of D sc_law_error (fun _ _ _ _ _ _ us hl => match us, hl with | [_, _], _ => rfl) (fun vs H Q E h => ?_) (fun f cdv A outer s₀ H vs Q E hr h => ?_)
  · obtain ⟨_, _, _, _, rfl, _⟩ := h
    rfl
  · obtain ⟨k, pq, ps, due, rfl, hp, er, q⟩ := h
    have lb : ∀ {H1 : Hp} {a : Addr}, Same H H1 → H1 a = none → ∀ {o H2}, Same (upd H1 a o) H2 → Same H H2 := fun s n _ _ s2 => s.trans ((same_upd n).trans s2)
    have nFS : nameOf "InvalidSequence" = "sequence" := by decide +kernel
    have nFT : nameOf "InvalidState" = "state" := by decide +kernel
    have nFN : nameOf "InvalidNumber" = "number" := by decide +kernel
    have nFL : nameOf "TooLong" = "long" := by decide +kernel
    refine ⟨_, (pss_cons (ps_set (i := 2) sc_law_error.nd rfl (by first | exact Or.inl rfl | exact Or.inr rfl) pe_non)
    (pss_cons (ps_try_keep (i := 3) (j := 2) rfl rfl sc_law_error.nd rfl rfl ⟨rfl, by decide, .inl (CM.all "PairError" (by decide))⟩ rfl (fun W pn xe tk _ => (pss_one (ps_if (pt_cmpR op_eq (pv 0) pe_int (nomark _)) (pss_one (ps_expr (pe_callXH G_after_rounds tk (hr.mono (by omega)) (by rfl) (pa_cons (pe_ix (ix_tupK (K := K) rfl) (pv 1) pe_int (fun _ _ => rfl)) (pa_cons (pe_ix (ix_tupK (K := K) rfl) (pv 1) pe_int (fun _ _ => rfl)) (pa_cons (pe_ix (ix_tupK (K := K) rfl) (pv 1) pe_int (fun _ _ => rfl)) pa_nil)))))) (pss_one (ps_if (pt_cmpR op_eq (pv 0) pe_int (nomark _)) (pss_one (ps_expr (pe_callXH G_growth_of tk (hr.mono (by omega)) (by rfl) (pa_cons (pe_ix (ix_tupK (K := K) rfl) (pv 1) pe_int (fun _ _ => rfl)) pa_nil)))) (pss_one (ps_if (pt_cmpR op_eq (pv 0) pe_int (nomark _)) (pss_one (ps_expr (pe_callXH G_return_of tk (hr.mono (by omega)) (by rfl) (pa_cons (pe_ix (ix_tupK (K := K) rfl) (pv 1) pe_int (fun _ _ => rfl)) (pa_cons (pe_ix (ix_tupK (K := K) rfl) (pv 1) pe_int (fun _ _ => rfl)) pa_nil))))) (pss_one (ps_expr (pe_callXH G_growing_from tk (hr.mono (by omega)) (by rfl) (pa_cons (pe_ix (ix_tupK (K := K) rfl) (pv 1) pe_int (fun _ _ => rfl)) (pa_cons (pe_ix (ix_tupK (K := K) rfl) (pv 1) pe_int (fun _ _ => rfl)) pa_nil)))))))))))) (fun a pn => pss_one (ps_set (i := 2) sc_law_error.nd rfl (by first | exact Or.inl rfl | exact Or.inr rfl) (pv 3))))
    (pss_one (ps_ret (pe_ifExp (pt_cmpR op_isN (pv 2) pe_non (nomark _)) pe_str (pe_callH G_law_kind_of (hr.mono (by omega)) (by rfl) (pa_cons (pv 2) pa_nil))))))), ?_⟩
    cases er with
    | d0q fm fz h =>
      obtain ⟨t, x, y, z, rfl, ht, hx, hy, hz⟩ := tup3_of hp
      refine ⟨_, rfl, rfl, _, rfl, iteP rfl ⟨_, rfl, t, _, 0, _, rfl, rfl, .of ht, rfl, _, rfl, t, _, 1, _, rfl, rfl, .of ht, rfl, _, rfl, t, _, 2, _, rfl, rfl, .of ht, rfl, x, y, z, _, _, _, rfl, hx, fm, hy, hz, fz, fun a0 a1 a2 a3 => ?_, fun a0 H1 s1 => ?_, fun a0 a1 H1 s1 => ?_, fun a0 a1 a2 H1 s1 => ?_, fun a0 a1 a2 a3 H1 s1 => ?_⟩⟩
      · exfalso
        first | omega | simp_all
      · exact ⟨FS.em, rfl, fun x nx => ⟨_, rfl, rfl, _, rfl, iteN rfl ⟨_, rfl, x, "InvalidSequence", rfl, upd_same, FS, by decide +kernel, fun H2 s2 => by rw [nFS]; exact q _ (lb s1 nx s2)⟩⟩⟩
      · exfalso
        first | omega | simp_all
      · exfalso
        first | omega | simp_all
      · exfalso
        first | omega | simp_all
    | d0l fm fz q0 h =>
      obtain ⟨t, x, y, z, rfl, ht, hx, hy, hz⟩ := tup3_of hp
      refine ⟨_, rfl, rfl, _, rfl, iteP rfl ⟨_, rfl, t, _, 0, _, rfl, rfl, .of ht, rfl, _, rfl, t, _, 1, _, rfl, rfl, .of ht, rfl, _, rfl, t, _, 2, _, rfl, rfl, .of ht, rfl, x, y, z, _, _, _, rfl, hx, fm, hy, hz, fz, fun a0 a1 a2 a3 => ?_, fun a0 H1 s1 => ?_, fun a0 a1 H1 s1 => ?_, fun a0 a1 a2 H1 s1 => ?_, fun a0 a1 a2 a3 H1 s1 => ?_⟩⟩
      · exfalso
        first | omega | simp_all
      · exfalso
        first | omega | simp_all
      · exact ⟨FL.em, rfl, fun x nx => ⟨_, rfl, rfl, _, rfl, iteN rfl ⟨_, rfl, x, "TooLong", rfl, upd_same, FL, by decide +kernel, fun H2 s2 => by rw [nFL]; exact q _ (lb s1 nx s2)⟩⟩⟩
      · exfalso
        first | omega | simp_all
      · exfalso
        first | omega | simp_all
    | d0n fm fz q0 l0 h =>
      obtain ⟨t, x, y, z, rfl, ht, hx, hy, hz⟩ := tup3_of hp
      refine ⟨_, rfl, rfl, _, rfl, iteP rfl ⟨_, rfl, t, _, 0, _, rfl, rfl, .of ht, rfl, _, rfl, t, _, 1, _, rfl, rfl, .of ht, rfl, _, rfl, t, _, 2, _, rfl, rfl, .of ht, rfl, x, y, z, _, _, _, rfl, hx, fm, hy, hz, fz, fun a0 a1 a2 a3 => ?_, fun a0 H1 s1 => ?_, fun a0 a1 H1 s1 => ?_, fun a0 a1 a2 H1 s1 => ?_, fun a0 a1 a2 a3 H1 s1 => ?_⟩⟩
      · exfalso
        first | omega | simp_all
      · exfalso
        first | omega | simp_all
      · exfalso
        first | omega | simp_all
      · exact ⟨FN.em, rfl, fun x nx => ⟨_, rfl, rfl, _, rfl, iteN rfl ⟨_, rfl, x, "InvalidNumber", rfl, upd_same, FN, by decide +kernel, fun H2 s2 => by rw [nFN]; exact q _ (lb s1 nx s2)⟩⟩⟩
      · exfalso
        first | omega | simp_all
    | d0s fm fz q0 l0 c1 h =>
      obtain ⟨t, x, y, z, rfl, ht, hx, hy, hz⟩ := tup3_of hp
      refine ⟨_, rfl, rfl, _, rfl, iteP rfl ⟨_, rfl, t, _, 0, _, rfl, rfl, .of ht, rfl, _, rfl, t, _, 1, _, rfl, rfl, .of ht, rfl, _, rfl, t, _, 2, _, rfl, rfl, .of ht, rfl, x, y, z, _, _, _, rfl, hx, fm, hy, hz, fz, fun a0 a1 a2 a3 => ?_, fun a0 H1 s1 => ?_, fun a0 a1 H1 s1 => ?_, fun a0 a1 a2 H1 s1 => ?_, fun a0 a1 a2 a3 H1 s1 => ?_⟩⟩
      · exfalso
        first | omega | simp_all
      · exfalso
        first | omega | simp_all
      · exfalso
        first | omega | simp_all
      · exfalso
        first | omega | simp_all
      · exact ⟨FT.em, rfl, fun x nx => ⟨_, rfl, rfl, _, rfl, iteN rfl ⟨_, rfl, x, "InvalidState", rfl, upd_same, FT, by decide +kernel, fun H2 s2 => by rw [nFT]; exact q _ (lb s1 nx s2)⟩⟩⟩
    | d0o fm fz q0 l0 c1 c2 h =>
      obtain ⟨t, x, y, z, rfl, ht, hx, hy, hz⟩ := tup3_of hp
      refine ⟨_, rfl, rfl, _, rfl, iteP rfl ⟨_, rfl, t, _, 0, _, rfl, rfl, .of ht, rfl, _, rfl, t, _, 1, _, rfl, rfl, .of ht, rfl, _, rfl, t, _, 2, _, rfl, rfl, .of ht, rfl, x, y, z, _, _, _, rfl, hx, fm, hy, hz, fz, fun a0 a1 a2 a3 => ?_, fun a0 H1 s1 => ?_, fun a0 a1 H1 s1 => ?_, fun a0 a1 a2 H1 s1 => ?_, fun a0 a1 a2 a3 H1 s1 => ?_⟩⟩
      · obtain ⟨n, k, e, af⟩ := h
        exact ⟨n, k, e, af, fun H1 v1 s1 _ => ⟨_, rfl, rfl, _, rfl, iteP rfl (q _ s1)⟩⟩
      · exfalso
        first | omega | simp_all
      · exfalso
        first | omega | simp_all
      · exfalso
        first | omega | simp_all
      · exfalso
        first | omega | simp_all
    | d1q fm h =>
      obtain ⟨t, x, rfl, ht, hx⟩ := tup1_of hp
      refine ⟨_, rfl, rfl, _, rfl, iteN rfl ⟨_, rfl, rfl, _, rfl, iteP rfl ⟨_, rfl, t, _, 0, _, rfl, rfl, .of ht, rfl, x, _, rfl, hx, fm, fun a0 a1 H1 v1 s1 => ?_, fun a0 H1 s1 => ?_, fun a0 a1 H1 s1 => ?_⟩⟩⟩
      · exfalso
        first | omega | simp_all
      · exact ⟨FS.em, rfl, fun x nx => ⟨_, rfl, rfl, _, rfl, iteN rfl ⟨_, rfl, x, "InvalidSequence", rfl, upd_same, FS, by decide +kernel, fun H2 s2 => by rw [nFS]; exact q _ (lb s1 nx s2)⟩⟩⟩
      · exfalso
        first | omega | simp_all
    | d1l fm q0 h =>
      obtain ⟨t, x, rfl, ht, hx⟩ := tup1_of hp
      refine ⟨_, rfl, rfl, _, rfl, iteN rfl ⟨_, rfl, rfl, _, rfl, iteP rfl ⟨_, rfl, t, _, 0, _, rfl, rfl, .of ht, rfl, x, _, rfl, hx, fm, fun a0 a1 H1 v1 s1 => ?_, fun a0 H1 s1 => ?_, fun a0 a1 H1 s1 => ?_⟩⟩⟩
      · exfalso
        first | omega | simp_all
      · exfalso
        first | omega | simp_all
      · exact ⟨FL.em, rfl, fun x nx => ⟨_, rfl, rfl, _, rfl, iteN rfl ⟨_, rfl, x, "TooLong", rfl, upd_same, FL, by decide +kernel, fun H2 s2 => by rw [nFL]; exact q _ (lb s1 nx s2)⟩⟩⟩
    | d1o fm q0 l0 =>
      obtain ⟨t, x, rfl, ht, hx⟩ := tup1_of hp
      refine ⟨_, rfl, rfl, _, rfl, iteN rfl ⟨_, rfl, rfl, _, rfl, iteP rfl ⟨_, rfl, t, _, 0, _, rfl, rfl, .of ht, rfl, x, _, rfl, hx, fm, fun a0 a1 H1 v1 s1 => ?_, fun a0 H1 s1 => ?_, fun a0 a1 H1 s1 => ?_⟩⟩⟩
      · exact fun _ => ⟨_, rfl, rfl, _, rfl, iteP rfl (q _ s1)⟩
      · exfalso
        first | omega | simp_all
      · exfalso
        first | omega | simp_all
    | d2q fm fz h =>
      obtain ⟨t, x, y, rfl, ht, hx, hy⟩ := tup2_of hp
      refine ⟨_, rfl, rfl, _, rfl, iteN rfl ⟨_, rfl, rfl, _, rfl, iteN rfl ⟨_, rfl, rfl, _, rfl, iteP rfl ⟨_, rfl, t, _, 0, _, rfl, rfl, .of ht, rfl, _, rfl, t, _, 1, _, rfl, rfl, .of ht, rfl, x, y, _, _, rfl, hx, fm, hy, fz, fun a0 a1 a3 => ?_, fun a0 H1 s1 => ?_, fun a0 a1 H1 s1 => ?_, fun a0 a1 a3 H1 s1 => ?_⟩⟩⟩⟩
      · exfalso
        first | omega | simp_all
      · exact ⟨FS.em, rfl, fun x nx => ⟨_, rfl, rfl, _, rfl, iteN rfl ⟨_, rfl, x, "InvalidSequence", rfl, upd_same, FS, by decide +kernel, fun H2 s2 => by rw [nFS]; exact q _ (lb s1 nx s2)⟩⟩⟩
      · exfalso
        first | omega | simp_all
      · exfalso
        first | omega | simp_all
    | d2l fm fz q0 h =>
      obtain ⟨t, x, y, rfl, ht, hx, hy⟩ := tup2_of hp
      refine ⟨_, rfl, rfl, _, rfl, iteN rfl ⟨_, rfl, rfl, _, rfl, iteN rfl ⟨_, rfl, rfl, _, rfl, iteP rfl ⟨_, rfl, t, _, 0, _, rfl, rfl, .of ht, rfl, _, rfl, t, _, 1, _, rfl, rfl, .of ht, rfl, x, y, _, _, rfl, hx, fm, hy, fz, fun a0 a1 a3 => ?_, fun a0 H1 s1 => ?_, fun a0 a1 H1 s1 => ?_, fun a0 a1 a3 H1 s1 => ?_⟩⟩⟩⟩
      · exfalso
        first | omega | simp_all
      · exfalso
        first | omega | simp_all
      · exact ⟨FL.em, rfl, fun x nx => ⟨_, rfl, rfl, _, rfl, iteN rfl ⟨_, rfl, x, "TooLong", rfl, upd_same, FL, by decide +kernel, fun H2 s2 => by rw [nFL]; exact q _ (lb s1 nx s2)⟩⟩⟩
      · exfalso
        first | omega | simp_all
    | d2s fm fz q0 l0 h =>
      obtain ⟨t, x, y, rfl, ht, hx, hy⟩ := tup2_of hp
      refine ⟨_, rfl, rfl, _, rfl, iteN rfl ⟨_, rfl, rfl, _, rfl, iteN rfl ⟨_, rfl, rfl, _, rfl, iteP rfl ⟨_, rfl, t, _, 0, _, rfl, rfl, .of ht, rfl, _, rfl, t, _, 1, _, rfl, rfl, .of ht, rfl, x, y, _, _, rfl, hx, fm, hy, fz, fun a0 a1 a3 => ?_, fun a0 H1 s1 => ?_, fun a0 a1 H1 s1 => ?_, fun a0 a1 a3 H1 s1 => ?_⟩⟩⟩⟩
      · exfalso
        first | omega | simp_all
      · exfalso
        first | omega | simp_all
      · exfalso
        first | omega | simp_all
      · exact ⟨FT.em, rfl, fun x nx => ⟨_, rfl, rfl, _, rfl, iteN rfl ⟨_, rfl, x, "InvalidState", rfl, upd_same, FT, by decide +kernel, fun H2 s2 => by rw [nFT]; exact q _ (lb s1 nx s2)⟩⟩⟩
    | d2o fm fz q0 l0 c2 h =>
      obtain ⟨t, x, y, rfl, ht, hx, hy⟩ := tup2_of hp
      refine ⟨_, rfl, rfl, _, rfl, iteN rfl ⟨_, rfl, rfl, _, rfl, iteN rfl ⟨_, rfl, rfl, _, rfl, iteP rfl ⟨_, rfl, t, _, 0, _, rfl, rfl, .of ht, rfl, _, rfl, t, _, 1, _, rfl, rfl, .of ht, rfl, x, y, _, _, rfl, hx, fm, hy, fz, fun a0 a1 a3 => ?_, fun a0 H1 s1 => ?_, fun a0 a1 H1 s1 => ?_, fun a0 a1 a3 H1 s1 => ?_⟩⟩⟩⟩
      · refine ⟨fun _ H1 s1 => ⟨_, rfl, rfl, _, rfl, iteP rfl (q _ s1)⟩, fun e => ?_⟩
        obtain ⟨sb, k, ce, few⟩ := h e
        exact ⟨sb, k, ce, few, fun H1 t1 s1 _ => ⟨_, rfl, rfl, _, rfl, iteP rfl (q _ s1)⟩⟩
      · exfalso
        first | omega | simp_all
      · exfalso
        first | omega | simp_all
      · exfalso
        first | omega | simp_all
    | d3q fm fz h =>
      obtain ⟨t, x, y, rfl, ht, hx, hy⟩ := tup2_of hp
      refine ⟨_, rfl, rfl, _, rfl, iteN rfl ⟨_, rfl, rfl, _, rfl, iteN rfl ⟨_, rfl, rfl, _, rfl, iteN rfl ⟨_, rfl, t, _, 0, _, rfl, rfl, .of ht, rfl, _, rfl, t, _, 1, _, rfl, rfl, .of ht, rfl, x, y, _, _, rfl, hx, fm, hy, fz, fun a0 a1 a3 => ?_, fun a0 H1 s1 => ?_, fun a0 a1 H1 s1 => ?_, fun a0 a1 a3 H1 s1 => ?_⟩⟩⟩⟩
      · exfalso
        first | omega | simp_all
      · exact ⟨FS.em, rfl, fun x nx => ⟨_, rfl, rfl, _, rfl, iteN rfl ⟨_, rfl, x, "InvalidSequence", rfl, upd_same, FS, by decide +kernel, fun H2 s2 => by rw [nFS]; exact q _ (lb s1 nx s2)⟩⟩⟩
      · exfalso
        first | omega | simp_all
      · exfalso
        first | omega | simp_all
    | d3l fm fz q0 h =>
      obtain ⟨t, x, y, rfl, ht, hx, hy⟩ := tup2_of hp
      refine ⟨_, rfl, rfl, _, rfl, iteN rfl ⟨_, rfl, rfl, _, rfl, iteN rfl ⟨_, rfl, rfl, _, rfl, iteN rfl ⟨_, rfl, t, _, 0, _, rfl, rfl, .of ht, rfl, _, rfl, t, _, 1, _, rfl, rfl, .of ht, rfl, x, y, _, _, rfl, hx, fm, hy, fz, fun a0 a1 a3 => ?_, fun a0 H1 s1 => ?_, fun a0 a1 H1 s1 => ?_, fun a0 a1 a3 H1 s1 => ?_⟩⟩⟩⟩
      · exfalso
        first | omega | simp_all
      · exfalso
        first | omega | simp_all
      · exact ⟨FL.em, rfl, fun x nx => ⟨_, rfl, rfl, _, rfl, iteN rfl ⟨_, rfl, x, "TooLong", rfl, upd_same, FL, by decide +kernel, fun H2 s2 => by rw [nFL]; exact q _ (lb s1 nx s2)⟩⟩⟩
      · exfalso
        first | omega | simp_all
    | d3s fm fz q0 l0 h =>
      obtain ⟨t, x, y, rfl, ht, hx, hy⟩ := tup2_of hp
      refine ⟨_, rfl, rfl, _, rfl, iteN rfl ⟨_, rfl, rfl, _, rfl, iteN rfl ⟨_, rfl, rfl, _, rfl, iteN rfl ⟨_, rfl, t, _, 0, _, rfl, rfl, .of ht, rfl, _, rfl, t, _, 1, _, rfl, rfl, .of ht, rfl, x, y, _, _, rfl, hx, fm, hy, fz, fun a0 a1 a3 => ?_, fun a0 H1 s1 => ?_, fun a0 a1 H1 s1 => ?_, fun a0 a1 a3 H1 s1 => ?_⟩⟩⟩⟩
      · exfalso
        first | omega | simp_all
      · exfalso
        first | omega | simp_all
      · exfalso
        first | omega | simp_all
      · exact ⟨FT.em, rfl, fun x nx => ⟨_, rfl, rfl, _, rfl, iteN rfl ⟨_, rfl, x, "InvalidState", rfl, upd_same, FT, by decide +kernel, fun H2 s2 => by rw [nFT]; exact q _ (lb s1 nx s2)⟩⟩⟩
    | d3o fm fz q0 l0 c2 h =>
      obtain ⟨t, x, y, rfl, ht, hx, hy⟩ := tup2_of hp
      refine ⟨_, rfl, rfl, _, rfl, iteN rfl ⟨_, rfl, rfl, _, rfl, iteN rfl ⟨_, rfl, rfl, _, rfl, iteN rfl ⟨_, rfl, t, _, 0, _, rfl, rfl, .of ht, rfl, _, rfl, t, _, 1, _, rfl, rfl, .of ht, rfl, x, y, _, _, rfl, hx, fm, hy, fz, fun a0 a1 a3 => ?_, fun a0 H1 s1 => ?_, fun a0 a1 H1 s1 => ?_, fun a0 a1 a3 H1 s1 => ?_⟩⟩⟩⟩
      · refine ⟨fun _ H1 s1 => ⟨_, rfl, rfl, _, rfl, iteP rfl (q _ s1)⟩, fun g e => ?_⟩
        obtain ⟨sb, k, ce, few⟩ := h g e
        exact ⟨sb, k, ce, few, fun H1 s1 => ⟨_, rfl, rfl, _, rfl, iteP rfl (q _ s1)⟩⟩
      · exfalso
        first | omega | simp_all
      · exfalso
        first | omega | simp_all
      · exfalso
        first | omega | simp_all
end
end UP

set_option Elab.async false
set_option linter.all false
set_option maxRecDepth 100000
set_option maxHeartbeats 4000000
set_option pp.maxSteps 500
namespace UP
open PySem PySem.Spec PyProof.Rows L2
/-! ### the courses that the law follows -/
def fullR : List Run := [(("b" : Str), 200), (("a" : Str), 200)]
def pairR : List Run := [(("a" : Str), 1), (("b" : Str), 1)]
def oneR : List Run := [(("a" : Str), 1)]
theorem full_none : stR fullR none = none := by decide +kernel
theorem pair_none : stR pairR none = none := by decide +kernel
theorem full_gr : grR fullR = none := by decide +kernel
theorem pair_gr : grR pairR = none := by decide +kernel
theorem one_gr : grR oneR = some (("a" : Str), 1) := by decide +kernel
theorem empty_gr : grR [] = none := rfl
/-- a sequence that leaves no state: the course returns at once -/
theorem ce_loop {rs : List Run} {m : Int} (h : stR rs none = none) (m1 : 1 ≤ m) : CEnd rs none m none 1 := by
  refine ⟨fun i hi => ?_, .inr (.inr ⟨0, Nat.lt_succ_self _, ?_⟩)⟩
  · have e : i = 0 := by omega
    subst e
    exact ⟨by show ((0 : Nat) : Int) + 1 ≤ m; omega, rfl, fun j hj => absurd hj (Nat.not_lt_zero _)⟩
  · exact h.symm
theorem st_loop {rs : List Run} (h : stR rs none = none) : startR (courseR rs none 1) = 0 := by
  have e : courseR rs none 1 = [none, none] := by
    show [none, stR rs none] = _
    rw [h]
  rw [e]
  decide +kernel
theorem aft_full : AftOk fullR none 1000000000000000000000000000000 1 := by
  have e : ff fullR none 1000000000000000000000000000000 = 0 := by decide +kernel
  refine ⟨?_, by decide, fun _ _ => ?_, fun h => absurd full_gr h⟩
  · rw [e, full_gr]
    exact ce_loop full_none (by decide)
  · rw [e]
    show startR (courseR fullR none 1) < 1
    rw [st_loop full_none]
    decide
theorem aft_empty : AftOk [] none 0 0 := by
  refine ⟨⟨fun i hi => absurd hi (Nat.not_lt_zero _), .inl ?_⟩, by decide, fun _ h => ?_, fun h => absurd empty_gr h⟩
  · decide +kernel
  · exact absurd h (by decide +kernel)
theorem fall_full : fallenR fullR (some (("c" : Str), 1000000000000000000000000000000000000000)) = none := by decide +kernel
theorem ret_full : StB (some (("c" : Str), 1000000000000000000000000000000000000000)) ∧ ∃ k : Nat, CEnd fullR none 1000000000000000000000000000000 (fallenR fullR (some (("c" : Str), 1000000000000000000000000000000000000000))) k ∧ k ≤ 100000 := by
  refine ⟨fun r h => ?_, 1, ?_, by decide⟩
  · cases h
    exact Nat.lt_of_lt_of_le (show (1000000000000000000000000000000000000000 : Nat) < 2 ^ 200 by decide) (Nat.pow_le_pow_right (by decide) (by decide))
  · rw [fall_full]
    exact ce_loop full_none (by decide)
theorem aft_one : AftOk oneR (some (("a" : Str), 1)) 2 0 := by
  have e : ff oneR (some (("a" : Str), 1)) 2 = 0 := by decide +kernel
  have e2 : fnR oneR (some (("a" : Str), 1)) 0 = some (("a" : Str), 1) := rfl
  refine ⟨⟨fun i hi => absurd hi (Nat.not_lt_zero _), .inr (.inl ?_)⟩, by decide, fun h => ?_, fun _ _ => ?_⟩
  · rw [e, e2, one_gr]
    decide +kernel
  · rw [one_gr] at h
    cases h
  · rw [e, e2]
    intro z
    cases z
theorem aft_one_is : aftR oneR (some (("a" : Str), 1)) 2 0 = some (("a" : Str), 3) := by
  have e : ff oneR (some (("a" : Str), 1)) 2 = 0 := by decide +kernel
  have e2 : fnR oneR (some (("a" : Str), 1)) 0 = some (("a" : Str), 1) := rfl
  unfold aftR
  rw [e, e2, one_gr]
  decide +kernel
theorem fall_one : fallenR oneR (some (("b" : Str), 2)) = none ∧ frR oneR (some (("b" : Str), 2)) = 2 := by decide +kernel
theorem ce_one : CEnd oneR (some (("a" : Str), 1)) 1000000000000000000000000000000 none 1 := by
  refine ⟨fun i hi => ?_, .inr (.inl ?_)⟩
  · have e : i = 0 := by omega
    subst e
    exact ⟨by decide, rfl, fun j hj => absurd hj (Nat.not_lt_zero _)⟩
  · decide +kernel
theorem back_one : backR (courseR oneR none 1) (("a" : Str), 1) 1 = 0 := by decide +kernel
end UP

set_option Elab.async false
set_option linter.all false
set_option maxRecDepth 100000
set_option maxHeartbeats 4000000
namespace UP
open PySem PySem.Spec PyProof.Rows L2
theorem room70 {A : Around} {k : Nat} (hr : Room k A) : A.units + 70 < cLine := by
  have := hr.un
  omega
theorem q30 : (10 : Int) ^ ((30 : Int).toNat) = 1000000000000000000000000000000 := by decide +kernel
theorem q39 : (10 : Int) ^ ((39 : Int).toNat) = 1000000000000000000000000000000000000000 := by decide +kernel
/-! ### what the menus hold -/
def Dat.fitB : Dat → Bool
  | .str z => decide (z.length ≤ 4000)
  | _ => true
def Dat.fit2B (d : Dat) : Bool := match d.two with
  | some (x, _) => x.fitB
  | none => true
def Dat.fitsB (d : Dat) : Bool := match d.parts with
  | some l => decide (l.length ≤ 100000) && l.all Dat.fit2B
  | none => true
theorem fitB_ok {d : Dat} (h : d.fitB = true) : d.fit := by
  cases d with
  | str z =>
    have h : decide (z.length ≤ 4000) = true := h
    show z.length ≤ 4000
    exact of_decide_eq_true h
  | _ => exact trivial
theorem fit2B_ok {d : Dat} (h : d.fit2B = true) : d.fit2 := by
  intro x y e
  unfold Dat.fit2B at h
  rw [e] at h
  exact fitB_ok h
theorem fitsB_ok {d : Dat} (h : d.fitsB = true) : d.fits := by
  intro l e
  unfold Dat.fitsB at h
  rw [e] at h
  have h : (decide (l.length ≤ 100000) && l.all Dat.fit2B) = true := h
  rw [Bool.and_eq_true] at h
  exact ⟨of_decide_eq_true h.1, fun x hx => fit2B_ok (List.all_eq_true.mp h.2 x hx)⟩
/-! ### the size of a repr -/
structure Nis (w n : Nat) (d : PyData) : Prop where
  dep : d.depth ≤ n
  sho : d.showable = true
  lea : d.leavesShort 100 = true
  wei : d.weight ≤ w
def nisB (w n : Nat) (d : PyData) : Bool := decide (d.depth ≤ n) && (d.showable && (d.leavesShort 100 && decide (d.weight ≤ w)))
theorem nis_of {w n : Nat} {d : PyData} (h : nisB w n d = true) : Nis w n d := by
  unfold nisB at h
  rw [Bool.and_eq_true, Bool.and_eq_true, Bool.and_eq_true] at h
  exact ⟨of_decide_eq_true h.1, h.2.1, h.2.2.1, of_decide_eq_true h.2.2.2⟩
theorem Nis.fits {w n : Nat} {d : PyData} (h : Nis w n d) (hw : w ≤ 150000) (hn : n ≤ 64) : d.showable = true ∧ d.depth ≤ 64 ∧ d.shown.length ≤ sizeLine := by
  refine ⟨h.sho, Nat.le_trans h.dep hn, ?_⟩
  have h1 := PyData.shown_le 100 (by decide) d h.lea
  have h2 := h.wei
  have h3 : d.shown.length ≤ 16000000 := by omega
  exact Nat.le_trans h3 (by decide)
theorem Nis.mono {w w' n n' : Nat} {d : PyData} (h : Nis w n d) (h1 : w ≤ w') (h2 : n ≤ n') : Nis w' n' d := ⟨Nat.le_trans h.dep h2, h.sho, h.lea, Nat.le_trans h.wei h1⟩
theorem nis_non : Nis 0 0 .none := ⟨Nat.le_refl _, rfl, rfl, Nat.le_refl _⟩
theorem nis_str {s : Str} (h : KindOk s) : Nis 8 0 (.str s) := by
  refine ⟨Nat.le_refl _, rfl, ?_, h.2.1⟩
  rw [PyData.leavesShort, List.all_eq_true]
  intro c hc
  have := h.2.2 c hc
  exact decide_eq_true (by omega)
theorem nis_int {i : Int} (h : i.natAbs < 10 ^ 60) : Nis 201 0 (.int i) := by
  have h2 : i.natAbs < 2 ^ 200 := Nat.lt_of_lt_of_le h (by decide)
  have h3 : i.natAbs.log2 < 200 := by
    by_cases z : i.natAbs = 0
    · rw [z]
      decide
    · exact (Nat.log2_lt z).mpr h2
  refine ⟨Nat.le_refl _, ?_, ?_, ?_⟩
  · rw [PyData.showable]
    exact decide_eq_true (by omega)
  · rw [PyData.leavesShort]
    refine decide_eq_true ?_
    have e := int_text_length_le10 (k := 60) (by decide) h
    show (Str.ofString (toString i)).length ≤ 100
    rw [PySem.ofString_length]
    omega
  · rw [PyData.weight]
    split <;> omega
theorem nis_items {w n : Nat} : ∀ {ds : List PyData}, (∀ d ∈ ds, Nis w n d) → PyData.depthAll ds ≤ n ∧ PyData.showableAll ds = true ∧ PyData.leavesShortAll 100 ds = true ∧ PyData.weightAll ds ≤ (w + 1) * ds.length
  | [], _ => ⟨Nat.zero_le _, rfl, rfl, Nat.zero_le _⟩
  | d :: t, h => by
    have h1 := h d (List.mem_cons_self ..)
    obtain ⟨a, b, c, e⟩ := nis_items (ds := t) fun x hx => h x (List.mem_cons_of_mem _ hx)
    refine ⟨?_, ?_, ?_, ?_⟩
    · rw [PyData.depthAll]
      exact Nat.max_le.mpr ⟨h1.dep, a⟩
    · rw [PyData.showableAll, h1.sho, b]
      rfl
    · rw [PyData.leavesShortAll, h1.lea, c]
      rfl
    · rw [PyData.weightAll, List.length_cons, Nat.mul_add]
      have := h1.wei
      omega
theorem nis_list {w n : Nat} {ds : List PyData} (h : ∀ d ∈ ds, Nis w n d) : Nis ((w + 1) * ds.length) (n + 1) (.list ds) := by
  obtain ⟨b, c, e, f⟩ := nis_items h
  exact ⟨by rw [PyData.depth]; omega, by rw [PyData.showable]; exact c, by rw [PyData.leavesShort]; exact e, by rw [PyData.weight]; exact f⟩
theorem nis_tup {w n : Nat} {ds : List PyData} (h : ∀ d ∈ ds, Nis w n d) : Nis ((w + 1) * ds.length) (n + 1) (.tuple ds) := by
  obtain ⟨b, c, e, f⟩ := nis_items h
  exact ⟨by rw [PyData.depth]; omega, by rw [PyData.showable]; exact c, by rw [PyData.leavesShort]; exact e, by rw [PyData.weight]; exact f⟩
theorem pys_map : ∀ (l : List Dat), Dat.pys l = l.map Dat.py
  | [] => rfl
  | x :: t => congrArg (x.py :: ·) (pys_map t)
theorem nis_lst {w n : Nat} {l : List Dat} (h : ∀ d ∈ l, Nis w n d.py) : Nis ((w + 1) * l.length) (n + 1) (Dat.lst l).py := by
  have := nis_list (w := w) (n := n) (ds := Dat.pys l) fun d hd => by
    rw [pys_map] at hd
    obtain ⟨x, hx, rfl⟩ := List.mem_map.mp hd
    exact h x hx
  rw [pys_map, List.length_map, ← pys_map] at this
  exact this
theorem bad0_all : ∀ d ∈ badM 0, d.seq = false ∧ d.fitsB = true ∧ nisB 500 3 d.py = true := by decide +kernel
theorem bad1_all : ∀ d ∈ badM 1, d.state = false ∧ d.fit2B = true ∧ nisB 500 3 d.py = true := by decide +kernel
def GoodD (d : Dat) : Prop := (∃ (k : Int) (ps : List Dat) (due : Str), d = .tup [.int k, .tup ps, .str due] ∧ Err k ps due) ∧ Nis 4600 6 d.py
def GoodR (l : List Dat) : Prop := ∀ d ∈ l, GoodD d
theorem goodR_nil : GoodR [] := fun d hd => by cases hd
theorem goodR_cons {x : Dat} {l : List Dat} (h : GoodD x) (t : GoodR l) : GoodR (x :: l) := fun d hd => by
  rcases List.mem_cons.mp hd with e | e
  · rw [e]
    exact h
  · exact t d e
theorem goodR_app {a b : List Dat} (h : GoodR a) (t : GoodR b) : GoodR (a ++ b) := fun d hd => (List.mem_append.mp hd).elim (h d) (t d)
theorem nilN : ∀ x ∈ ([] : List Dat), Nis 500 3 x.py := fun x hx => by cases hx
theorem consN {y : Dat} {l : List Dat} (h : Nis 500 3 y.py) (t : ∀ x ∈ l, Nis 500 3 x.py) : ∀ x ∈ y :: l, Nis 500 3 x.py := fun d hd => by
  rcases List.mem_cons.mp hd with e | e
  · rw [e]
    exact h
  · exact t d e
theorem nis_tupD {w n : Nat} {l : List Dat} (h : ∀ d ∈ l, Nis w n d.py) : Nis ((w + 1) * l.length) (n + 1) (Dat.tup l).py := by
  have := nis_tup (w := w) (n := n) (ds := Dat.pys l) fun d hd => by
    rw [pys_map] at hd
    obtain ⟨x, hx, rfl⟩ := List.mem_map.mp hd
    exact h x hx
  rw [pys_map, List.length_map, ← pys_map] at this
  exact this
theorem nis_row {k : Int} {ps : List Dat} {due : Str} (hk : k.natAbs < 10 ^ 60) (l : ps.length ≤ 3) (hd : KindOk due) (h : ∀ x ∈ ps, Nis 500 3 x.py) : Nis 4600 6 (Dat.tup [.int k, .tup ps, .str due]).py := by
  have h1 := (nis_tupD h).mono (w' := 1503) (n' := 4) (by omega) (Nat.le_refl _)
  have := nis_tupD (w := 1503) (n := 4) (l := [.int k, .tup ps, .str due]) fun x hx => by
    rcases List.mem_cons.mp hx with e | hx
    · rw [e]
      exact (nis_int hk).mono (by decide) (by decide)
    · rcases List.mem_cons.mp hx with e | hx
      · rw [e]
        exact h1
      · rw [List.mem_singleton.mp hx]
        exact (nis_str hd).mono (by decide) (by decide)
  exact this.mono (by show 1504 * 3 ≤ _; decide) (by decide)
theorem nis_kf {k : Str} {f : Int} (hk : KindOk k) (hf : f.natAbs < 10 ^ 60) : Nis 500 3 (Dat.tup [.str k, .int f]).py := by
  have := nis_tupD (w := 201) (n := 0) (l := [.str k, .int f]) fun x hx => by
    rcases List.mem_cons.mp hx with e | hx
    · rw [e]
      exact (nis_str hk).mono (by decide) (by decide)
    · rw [List.mem_singleton.mp hx]
      exact nis_int hf
  exact this.mono (by show 202 * 2 ≤ _; decide) (by decide)
theorem err23 {dr : Int} {ps : List Dat} {due : Str} (h : dr = 2 ∨ dr = 3) (a : Err 2 ps due) (b : Err 3 ps due) : Err dr ps due := by
  rcases h with e | e
  · rw [e]; exact a
  · rw [e]; exact b
theorem st_kf {k : Str} {f : Int} (hk : kindB k = true) (hl : k.length ≤ 4000) (h1 : 1 ≤ f) : (Dat.tup [.str k, .int f]).state = true ∧ (Dat.tup [.str k, .int f]).fit2 ∧ (Dat.tup [.str k, .int f]).stt = some (k, f) := by
  refine ⟨?_, fit2B_ok ?_, rfl⟩
  · show (kindB k && decide (1 ≤ f)) = true
    rw [hk, decide_eq_true h1]
    rfl
  · show decide (k.length ≤ 4000) = true
    exact decide_eq_true hl
theorem g_step {i : Nat} {v : V} {σ : L2.St} {H : Hp} {x : TS} {D : Ends} (h : x D (σ.set i (some v)) H) : gName i v σ H (Ends.nx { D with nx := x D }) := h
theorem g_stepF {i : Nat} {v : V} {σ : L2.St} {H : Hp} {k : L2.St → Hp → Prop} (h : k (σ.set i (some v)) H) : gName i v σ H k := h
theorem gen_set {i : Nat} {v : V} {σ : L2.St} {H : Hp} {x : TS} {D : Ends} {n : Int} (e : v = .int n) (h : x D (σ.set i (some (.int n))) H) : gName i v σ H (Ends.nx { D with nx := x D }) := by
  subst e
  exact h
theorem lit_set1 {t : TE} {d : Dat} {i : Nat} {D : Ends} {σ : L2.St} {H : Hp} (h : Lit σ H t d) (q : ∀ H' v, Same H H' → Rp H' v d → D.nx (σ.set i (some v)) H') : tAsg t (gName i) D σ H := h H _ (Same.refl _) q
theorem gen_heap {T A : Hp → Prop} {h : Hp} (k : ∀ H', A H' → T H') (a : A h) : T h := k h a
theorem gen_setF {i : Nat} {v : V} {σ : L2.St} {H : Hp} {k : L2.St → Hp → Prop} {n : Int} (e : v = .int n) (h : k (σ.set i (some (.int n))) H) : gName i v σ H k := by
  subst e
  exact h
theorem lits_par3 {i j l : Nat} {ta : TA} {d1 d2 d3 : Dat} {rest : TS} {D : Ends} {σ : L2.St} {H : Hp} (h : Lits σ H ta [d1, d2, d3]) (q : ∀ H' x y z, Same H H' → Rp H' x d1 → Rp H' y d2 → Rp H' z d3 → rest D (((σ.set i (some x)).set j (some y)).set l (some z)) H') : tSeq (tPar3 i j l ta) rest D σ H := h H _ (Same.refl _) fun H' vs s hp => by
  cases hp with
  | cons h1 hp => cases hp with
    | cons h2 hp => cases hp with
      | cons h3 hp =>
        cases hp
        exact ⟨_, _, _, rfl, q _ _ _ _ s h1 h2 h3⟩
theorem nx_step {σ : L2.St} {H : Hp} {x : TS} {D : Ends} (h : x D σ H) : (Ends.nx { D with nx := x D }) σ H := h
def oddL : List Dat := [.int (-1), .int ((10 : Int) ^ ((30 : Int).toNat) + 1), .non, .bl true, .str "1", .lst [.int 1], .int ((10 : Int) ^ ((39 : Int).toNat)), .bl false]
theorem odd_all : ∀ d ∈ oddL, d.inI 0 1000000000000000000000000000000 = false ∧ nisB 500 3 d.py = true := by decide +kernel
section
variable {P : Program} {w : World} {K : PySem.W.Frag} {mg : Str → Option Value} {base : Heap}
/-! law: slots 0:script 1:reel 2:k 3:pair 4:odd 5:size 6:rows 7:door 8:kept 9:bad 10:no_state 11:large 12:full 13:good 14:parts 15:due -/
abbrev s_law : Stmt := topS 64
theorem sc_law : FnScope ["script", "reel", "k", "pair", "odd", "size", "rows", "door", "kept", "bad", "no_state", "large", "full", "good", "parts", "due"] ["script"] (defScope s_law) := ⟨rfl, rfl, rfl, by decide +kernel, rfl, by decide +kernel, by decide +kernel⟩
def sp_law (K : PySem.W.Frag) : Sp := fun vs H Q _ => ∃ (a : Addr) (ns : List Int), vs = [.ref a] ∧ SqL K H a (ns.map V.int) ∧ ns.length ≤ 63 ∧ ∀ H', Q (.bl true) H'
theorem fn_law {f : Addr} {fd : FuncData} {CS CL CN CT : Addr} (F : Fun K "law" "law" s_law f fd) (T : Tx mg)
    (G_law_reel : Has P w K mg base 1 "_law_reel" ["script"] (sp_law_reel K)) (G_law_draw : Has P w K mg base 1 "_law_draw" ["reel", "many"] sp_law_draw)
    (G_law_bad : Has P w K mg base 2 "_law_bad" ["reel", "which"] sp_law_bad) (G_law_error : Has P w K mg base 9 "_law_error" ["door", "parts"] sp_law_error)
    (G_after_rounds : HasXN P w K mg base 8 "after_rounds" ["sequence", "rounds", "state"] 2 "state" (sp_after_rounds CS CL CN CT)) (G_return_of : HasXN P w K mg base 8 "return_of" ["sequence", "state"] 1 "state" (sp_return_of CS CL CT)) (G_growing_from : HasXN P w K mg base 8 "growing_from" ["sequence", "state"] 1 "state" (sp_growing_from CS CL CT)) :
    FnC P w K mg base f fd ["script"] (sp_law K) := by
  refine fnC_of F sc_law (fun vs H Q E h => ?_) (fun cdv outer s H vs Q E hr h => ?_)
  · obtain ⟨_, _, rfl, _⟩ := h
    rfl
  · obtain ⟨a, ns, rfl, hS, l63, q⟩ := h
    have hr := Room.deeper (show Room (10 + 1) callerA from ⟨rfl, by decide, by decide⟩) (envOfC "law" (defScope s_law) s.heap.objs.size f cdv)
    refine ⟨_, (pss_cons (ps_set (i := 1) sc_law.nd rfl (by first | exact Or.inl rfl | exact Or.inr rfl) (pe_callH G_law_reel (hr.mono (by omega)) (by rfl) (pa_cons (pv 0) pa_nil)))
    (pss_cons (ps_for PassesOwn.never rfl (pi_range1 (by rfl) T.n_range (pa_cons (pe_op op_add pe_int (pe_callB (call_min2 rfl) (by rfl) T.n_min (by decide +kernel) (pa_cons (pe_callB call_len_seq (by rfl) T.n_len (by decide +kernel) (pa_cons (pv 0) pa_nil)) (pa_cons pe_int pa_nil)))) pa_nil)) (pg_name (i := 2) sc_law.nd rfl (by first | exact Or.inl rfl | exact Or.inr rfl))
      (pss_cons (ps_par (i := 9) (j := 10) (by rfl) sc_law.nd rfl rfl (by decide) rfl rfl (pa_cons (pe_callH G_law_bad (hr.mono (by omega)) (by rfl) (pa_cons (pv 1) (pa_cons pe_int pa_nil))) (pa_cons (pe_callH G_law_bad (hr.mono (by omega)) (by rfl) (pa_cons (pv 1) (pa_cons pe_int pa_nil))) pa_nil)) (by rfl))
    (pss_cons (ps_set (i := 4) sc_law.nd rfl (by first | exact Or.inl rfl | exact Or.inr rfl) (pe_ix ix_list (pe_lst (pa_cons (pe_un un_neg pe_int) (pa_cons (pe_op op_add (pe_op op_pow pe_int pe_int) pe_int) (pa_cons pe_non (pa_cons pe_bl (pa_cons pe_str (pa_cons (pe_lst (pa_cons pe_int pa_nil)) (pa_cons (pe_op op_pow pe_int pe_int) (pa_cons pe_bl pa_nil))))))))) (pe_callH G_law_draw (hr.mono (by omega)) (by rfl) (pa_cons (pv 1) (pa_cons pe_int pa_nil))) (fun _ _ => rfl)))
    (pss_cons (ps_set (i := 5) sc_law.nd rfl (by first | exact Or.inl rfl | exact Or.inr rfl) (pe_op op_add pe_int (pe_ix ix_list (pe_lst (pa_cons pe_int (pa_cons (pe_callH G_law_draw (hr.mono (by omega)) (by rfl) (pa_cons (pv 1) (pa_cons pe_int pa_nil))) (pa_cons (pe_op op_sub (pe_op op_pow pe_int pe_int) pe_int) pa_nil)))) (pe_callH G_law_draw (hr.mono (by omega)) (by rfl) (pa_cons (pv 1) (pa_cons pe_int pa_nil))) (fun _ _ => rfl))))
    (pss_cons (ps_par3 (i := 11) (j := 12) (l := 13) (by rfl) sc_law.nd rfl rfl rfl (by decide) (by decide) (by decide) rfl rfl rfl (pa_cons (pe_lst (pa_cons (pe_tup (pa_cons pe_str (pa_cons (pv 5) pa_nil))) pa_nil)) (pa_cons (pe_lst (pa_cons (pe_tup (pa_cons pe_str (pa_cons pe_int pa_nil))) (pa_cons (pe_tup (pa_cons pe_str (pa_cons pe_int pa_nil))) pa_nil))) (pa_cons (pe_lst (pa_cons (pe_tup (pa_cons pe_str (pa_cons pe_int pa_nil))) (pa_cons (pe_tup (pa_cons pe_str (pa_cons pe_int pa_nil))) pa_nil))) pa_nil))) (by rfl))
    (pss_cons (ps_set (i := 6) sc_law.nd rfl (by first | exact Or.inl rfl | exact Or.inr rfl) (pe_lst (pa_cons (pe_tup (pa_cons pe_int (pa_cons (pe_tup (pa_cons (pv 9) (pa_cons (pv 4) (pa_cons (pv 10) pa_nil)))) (pa_cons pe_str pa_nil)))) (pa_cons (pe_tup (pa_cons pe_int (pa_cons (pe_tup (pa_cons (pv 11) (pa_cons (pv 4) (pa_cons (pv 10) pa_nil)))) (pa_cons pe_str pa_nil)))) pa_nil))))
    (pss_cons (ps_set (i := 6) sc_law.nd rfl (by first | exact Or.inl rfl | exact Or.inr rfl) (pe_op op_cat (pv 6) (pe_lst (pa_cons (pe_tup (pa_cons pe_int (pa_cons (pe_tup (pa_cons (pv 13) (pa_cons (pv 4) (pa_cons (pv 10) pa_nil)))) (pa_cons pe_str pa_nil)))) (pa_cons (pe_tup (pa_cons pe_int (pa_cons (pe_tup (pa_cons (pv 13) (pa_cons pe_int (pa_cons (pv 10) pa_nil)))) (pa_cons pe_str pa_nil)))) pa_nil)))))
    (pss_cons (ps_set (i := 6) sc_law.nd rfl (by first | exact Or.inl rfl | exact Or.inr rfl) (pe_op op_cat (pv 6) (pe_lst (pa_cons (pe_tup (pa_cons pe_int (pa_cons (pe_tup (pa_cons (pv 12) (pa_cons (pe_op op_pow pe_int pe_int) (pa_cons pe_non pa_nil)))) (pa_cons pe_str pa_nil)))) (pa_cons (pe_tup (pa_cons pe_int (pa_cons (pe_tup (pa_cons (pe_lst pa_nil) (pa_cons pe_int (pa_cons pe_non pa_nil)))) (pa_cons pe_str pa_nil)))) pa_nil)))))
    (pss_cons (ps_set (i := 6) sc_law.nd rfl (by first | exact Or.inl rfl | exact Or.inr rfl) (pe_op op_cat (pv 6) (pe_lst (pa_cons (pe_tup (pa_cons pe_int (pa_cons (pe_tup (pa_cons (pv 9) pa_nil)) (pa_cons pe_str pa_nil)))) (pa_cons (pe_tup (pa_cons pe_int (pa_cons (pe_tup (pa_cons (pv 11) pa_nil)) (pa_cons pe_str pa_nil)))) (pa_cons (pe_tup (pa_cons pe_int (pa_cons (pe_tup (pa_cons (pv 12) pa_nil)) (pa_cons pe_str pa_nil)))) (pa_cons (pe_tup (pa_cons pe_int (pa_cons (pe_tup (pa_cons (pe_tup pa_nil) pa_nil)) (pa_cons pe_str pa_nil)))) pa_nil)))))))
    (pss_cons (ps_for PassesOwn.never rfl (pi_tup (pe_tup (pa_cons pe_int (pa_cons pe_int pa_nil)))) (pg_name (i := 7) sc_law.nd rfl (by first | exact Or.inl rfl | exact Or.inr rfl))
      (pss_cons (ps_set (i := 6) sc_law.nd rfl (by first | exact Or.inl rfl | exact Or.inr rfl) (pe_op op_cat (pv 6) (pe_lst (pa_cons (pe_tup (pa_cons (pv 7) (pa_cons (pe_tup (pa_cons (pv 9) (pa_cons (pv 10) pa_nil))) (pa_cons pe_str pa_nil)))) (pa_cons (pe_tup (pa_cons (pv 7) (pa_cons (pe_tup (pa_cons (pv 11) (pa_cons (pv 10) pa_nil))) (pa_cons pe_str pa_nil)))) pa_nil)))))
    (pss_one (ps_set (i := 6) sc_law.nd rfl (by first | exact Or.inl rfl | exact Or.inr rfl) (pe_op op_cat (pv 6) (pe_lst (pa_cons (pe_tup (pa_cons (pv 7) (pa_cons (pe_tup (pa_cons (pv 13) (pa_cons (pv 10) pa_nil))) (pa_cons pe_str pa_nil)))) (pa_cons (pe_tup (pa_cons (pv 7) (pa_cons (pe_tup (pa_cons (pv 12) (pa_cons (pe_tup (pa_cons pe_str (pa_cons (pe_op op_pow pe_int pe_int) pa_nil))) pa_nil))) (pa_cons pe_str pa_nil)))) pa_nil))))))))
    (pss_cons (ps_set (i := 8) sc_law.nd rfl (by first | exact Or.inl rfl | exact Or.inr rfl) (pe_callB (call_reprR (by rfl) (room70 hr)) (by rfl) T.n_repr (by decide +kernel) (pa_cons (pv 6) pa_nil)))
    (pss_cons (ps_for PassesOwn.never rfl (pi_list (pv 6)) (pg_tup rfl (pgs_cons (pg_name (i := 7) sc_law.nd rfl (by first | exact Or.inl rfl | exact Or.inr rfl)) (pgs_cons (pg_name (i := 14) sc_law.nd rfl (by first | exact Or.inl rfl | exact Or.inr rfl)) (pgs_cons (pg_name (i := 15) sc_law.nd rfl (by first | exact Or.inl rfl | exact Or.inr rfl)) pgs_nil))))
      (pss_one (ps_if (pt_cmpR op_ne (pe_callH G_law_error (hr.mono (by omega)) (by rfl) (pa_cons (pv 7) (pa_cons (pv 14) pa_nil))) (pv 15) (nomark _)) (pss_one (ps_ret pe_bl)) pss_nil)))
    (pss_one (ps_if (pt_cmpR op_ne (pe_callB (call_reprR (by rfl) (room70 hr)) (by rfl) T.n_repr (by decide +kernel) (pa_cons (pv 6) pa_nil)) (pv 8) (nomark _)) (pss_one (ps_ret pe_bl)) pss_nil))))))))))))))
    (pss_cons (ps_set (i := 3) sc_law.nd rfl (by first | exact Or.inl rfl | exact Or.inr rfl) (pe_lst (pa_cons (pe_tup (pa_cons pe_str (pa_cons pe_int pa_nil))) (pa_cons (pe_tup (pa_cons pe_str (pa_cons pe_int pa_nil))) pa_nil))))
    (pss_cons (ps_if (PW.pt (pw_or (pt_cmpR (op_neD hr.units) (pe_callXN G_after_rounds (hr.mono (by omega)) (by rfl) (pa_cons (pe_lst (pa_cons (pe_tup (pa_cons pe_str (pa_cons pe_int pa_nil))) pa_nil)) (pa_cons pe_int pa_nil)) (pk_cons (pe_tup (pa_cons pe_str (pa_cons pe_int pa_nil))) pk_nil)) (pe_tup (pa_cons pe_str (pa_cons pe_int pa_nil))) (nomark _)) (pw_or1 (pt_cmpR (op_neD hr.units) (pe_callXN G_return_of (hr.mono (by omega)) (by rfl) (pa_cons (pv 3) pa_nil) (pk_cons pe_non pk_nil)) (pe_tup (pa_cons pe_int (pa_cons pe_int pa_nil))) (nomark _))))) (pss_one (ps_ret pe_bl)) pss_nil)
    (pss_one (ps_ret (pe_cmpR op_eq (pe_callXN G_growing_from (hr.mono (by omega)) (by rfl) (pa_cons (pe_lst (pa_cons (pe_tup (pa_cons pe_str (pa_cons pe_int pa_nil))) pa_nil)) pa_nil) (pk_cons (pe_tup (pa_cons pe_str (pa_cons pe_int pa_nil))) pk_nil)) pe_int (nomark _)))))))), ?_⟩
    refine ⟨_, rfl, a, ns, rfl, hS, fun H1 p s1 np z1 => ?_⟩
    refine ⟨_, rfl, a, _, rfl, .inl (s1.seq hS), _, _, rfl, _, _, rfl, rfl, _, rfl, ?_, ?_, for_range (lo := 0) (n := _) (fun i σ H' => ∃ y2 y3 y4 y5 y6 y7 y8 y9 y10 y11 y12 y13 y14 y15, σ = [some (.ref a), some (.ref p), y2, y3, y4, y5, y6, y7, y8, y9, y10, y11, y12, y13, y14, y15] ∧ Reel H' p)
      ⟨none, none, none, none, none, none, none, none, none, none, none, none, none, none, rfl, z1⟩ (fun i σ H2 hi hP => ?_) (fun σ H2 hP => ?_)⟩
    · rw [List.length_map]
      split <;> omega
    · rw [List.length_map]
      split <;> omega
    · obtain ⟨y2, y3, y4, y5, y6, y7, y8, y9, y10, y11, y12, y13, y14, y15, rfl, z2⟩ := hP
      clear z1
      refine ⟨_, rfl, p, 0, rfl, z2, by decide, by decide, fun H3 vB dB b3 z3 mB rB => ⟨_, rfl, p, 1, rfl, z3, by decide, by decide, fun H4 vW dW b4 z4 mW rW => ?_⟩⟩
      have rB := rB.same (delH_RB b4)
      obtain ⟨qB, fB, nB⟩ := bad0_all dB mB
      obtain ⟨sW, fW, nW⟩ := bad1_all dW mW
      have fB := fitsB_ok fB
      have fW := fit2B_ok fW
      have nB := nis_of nB
      have nW := nis_of nW
      refine ⟨_, _, rfl, ?_⟩
      -- odd
      refine nx_step ?_
      obtain ⟨op4, hp4⟩ := z4.at
      refine litF_setIx (Same.refl _) (ds := oddL) (litF_lst (litsF_cons (litF_val (v := .int (-1)) (fun H Q q => ⟨1, rfl, q⟩) (fun H => .int _)) (litsF_cons (litF_val (v := .int ((10 : Int) ^ ((30 : Int).toNat) + 1)) (fun H Q q => ⟨_, _, rfl, rfl, ⟨by decide, by decide, by decide⟩, _, _, rfl, rfl, q⟩) (fun H => .int _)) (litsF_cons litF_non (litsF_cons litF_bl (litsF_cons litF_str (litsF_cons (litF_lst (litsF_cons litF_int litsF_nil) (Nat.le_of_ble_eq_true rfl)) (litsF_cons (litF_val (v := .int ((10 : Int) ^ ((39 : Int).toNat))) (fun H Q q => ⟨_, _, rfl, rfl, ⟨by decide, by decide, by decide⟩, q⟩) (fun H => .int _)) (litsF_cons litF_bl litsF_nil)))))))) (Nat.le_of_ble_eq_true rfl)) (fun H5 v5 s5 r5 => ?_)
      refine ⟨_, rfl, p, 8, rfl, z4.same s5, by decide, by decide, fun H6 ro b6 z6 r0 r1 => ?_⟩
      have ix : ro.toNat < oddL.length := by
        show ro.toNat < 8
        omega
      obtain ⟨ao, xso, vO, rfl, hxso, exo, rO⟩ := rp_at (r5.same (newH_butR z4 b6)) r0 ix
      refine ⟨ao, xso, ro, vO, rfl, rfl, .of (newH_sub _ _ hxso), exo, ?_⟩
      obtain ⟨oO, nO⟩ := odd_all _ (List.getElem_mem ix)
      have rO := rO.same (newH_del hp4)
      generalize oddL[ro.toNat] = dO at rO oO nO
      have nO := nis_of nO
      have d6 := delH_RB ((RB.of s5).trans b6)
      have rB := rB.same d6
      have rW := rW.same d6
      -- size
      refine ⟨_, rfl, p, 99, rfl, z6, by decide, by decide, fun H7 r b7 z7 r0 r1 => ⟨_, _, rfl, rfl, ⟨by decide, by decide, by decide⟩, _, _, rfl, rfl, (by show 3 ≤ sizeLine; decide), fun lA nl => ?_⟩⟩
      have sl := same_upd (o := .lst [.int 0, .int r, .int ((10 : Int) ^ ((30 : Int).toNat) - 401)]) nl
      have lp : lA ≠ p := z7.ne nl
      refine ⟨_, rfl, p, 3, rfl, z7.same sl, by decide, by decide, fun H8 r3 b8 z8 r30 r31 => ?_⟩
      have h8 : H8 lA = some (.lst [.int 0, .int r, .int ((10 : Int) ^ ((30 : Int).toNat) - 401)]) := b8.but _ _ lp upd_same
      obtain ⟨n, en, n0, n1⟩ : ∃ n : Int, atI [V.int 0, .int r, .int ((10 : Int) ^ ((30 : Int).toNat) - 401)] r3 = some (.int n) ∧ 0 ≤ n ∧ n ≤ 999999999999999999999999999599 := by
        rcases (show r3 = 0 ∨ r3 = 1 ∨ r3 = 2 by omega) with rfl | rfl | rfl
        · exact ⟨0, rfl, by omega, by omega⟩
        · exact ⟨r, rfl, by omega, by omega⟩
        · exact ⟨_, rfl, by rw [q30]; decide, by rw [q30]; decide⟩
      refine ⟨lA, _, r3, .int n, rfl, rfl, .of h8, en, _, _, rfl, rfl, ?_⟩
      obtain ⟨f, ef⟩ : ∃ f : Int, f = 401 + n := ⟨_, rfl⟩
      refine gen_set (n := f) (congrArg V.int ef.symm) ?_
      have d7 := (delH_RB b7).trans (delH_mono sl)
      have d8 := d7.trans (delH_RB b8)
      have rB := rB.same d8
      have rW := rW.same d8
      have rO := rO.same d8
      -- large, full, good
      obtain ⟨dL, eL⟩ : ∃ d : Dat, d = .lst [.tup [.str "a", .int f]] := ⟨_, rfl⟩
      obtain ⟨dF, eF⟩ : ∃ d : Dat, d = .lst [.tup [.str "b", .int 200], .tup [.str "a", .int 200]] := ⟨_, rfl⟩
      obtain ⟨dG, eG⟩ : ∃ d : Dat, d = .lst [.tup [.str "a", .int 2], .tup [.str "b", .int 1]] := ⟨_, rfl⟩
      refine lits_par3 (d1 := .lst [.tup [.str "a", .int f]]) (d2 := .lst [.tup [.str "b", .int 200], .tup [.str "a", .int 200]]) (d3 := .lst [.tup [.str "a", .int 2], .tup [.str "b", .int 1]]) (lits_cons (lit_lst (lits_cons (lit_tup (lits_cons lit_str (lits_cons (lit_var rfl (.int _)) lits_nil)) (Nat.le_of_ble_eq_true rfl)) lits_nil) (Nat.le_of_ble_eq_true rfl)) (lits_cons (lit_lst (lits_cons (lit_tup (lits_cons lit_str (lits_cons lit_int lits_nil)) (Nat.le_of_ble_eq_true rfl)) (lits_cons (lit_tup (lits_cons lit_str (lits_cons lit_int lits_nil)) (Nat.le_of_ble_eq_true rfl)) lits_nil)) (Nat.le_of_ble_eq_true rfl)) (lits_cons (lit_lst (lits_cons (lit_tup (lits_cons lit_str (lits_cons lit_int lits_nil)) (Nat.le_of_ble_eq_true rfl)) (lits_cons (lit_tup (lits_cons lit_str (lits_cons lit_int lits_nil)) (Nat.le_of_ble_eq_true rfl)) lits_nil)) (Nat.le_of_ble_eq_true rfl)) lits_nil))) (fun H9 vL vF vG s9 rL rF rG => ?_)
      rw [← eL] at rL
      rw [← eF] at rF
      rw [← eG] at rG
      have rB := (rB.same delH_sub).same s9
      have rW := (rW.same delH_sub).same s9
      have rO := (rO.same delH_sub).same s9
      have z9 := z8.same s9
      -- facts
      have fb : 401 ≤ f ∧ f ≤ 1000000000000000000000000000000 := by omega
      have fL : dL.fits := by rw [eL]; exact fitsB_ok rfl
      have qL : dL.seq = true := by
        rw [eL]
        have e1 : (Dat.tup [.str "a", .int f]).run = true := by
          show (kindB "a" && decide (1 ≤ f ∧ f ≤ 1000000000000000000000000000000)) = true
          rw [show kindB "a" = true by decide +kernel, decide_eq_true (by omega : 1 ≤ f ∧ f ≤ 1000000000000000000000000000000)]
          rfl
        show (decide (((1 : Nat) : Int) ≤ 400) && (([Dat.tup [.str "a", .int f]].all Dat.run) && true)) = true
        rw [List.all_cons, e1]
        decide
      have lL : 400 < lenR dL.runs := by
        rw [eL]
        show 400 < lenR [(("a" : Str), f)]
        rw [lenR_cons, lenR_nil]
        show 400 < f + 0
        omega
      have nL : Nis 500 3 dL.py := by
        rw [eL]
        have h1 := nis_tupD (w := 201) (n := 0) (l := [.str "a", .int f]) fun x hx => by
          rcases List.mem_cons.mp hx with e | hx
          · rw [e]
            exact nis_of (by decide +kernel)
          · rw [List.mem_singleton.mp hx]
            exact nis_int (by omega)
        have h2 := nis_lst (w := 404) (n := 1) (l := [.tup [.str "a", .int f]]) fun x hx => by
          rw [List.mem_singleton.mp hx]
          exact h1.mono (by show 202 * 2 ≤ _; decide) (by decide)
        exact h2.mono (by show 405 * 1 ≤ _; decide) (by decide)
      have fF : dF.fits := by rw [eF]; exact fitsB_ok (by decide +kernel)
      have qF : dF.seq = true := by rw [eF]; decide +kernel
      have runF : dF.runs = fullR := by rw [eF]; rfl
      have lF : lenR dF.runs ≤ 400 := by rw [runF]; decide +kernel
      have nF : Nis 500 3 dF.py := by rw [eF]; exact nis_of (by decide +kernel)
      have fG : dG.fits := by rw [eG]; exact fitsB_ok (by decide +kernel)
      have qG : dG.seq = true := by rw [eG]; decide +kernel
      have lG : lenR dG.runs ≤ 400 := by rw [eG]; decide +kernel
      have nG : Nis 500 3 dG.py := by rw [eG]; exact nis_of (by decide +kernel)
      have fN : Dat.non.fit2 := fit2B_ok rfl
      have fE : (Dat.lst []).fits := fitsB_ok (by decide +kernel)
      have qE : (Dat.lst []).seq = true := by decide +kernel
      have lE : lenR (Dat.lst []).runs ≤ 400 := by decide +kernel
      have fT : (Dat.tup []).fits := fitsB_ok (by decide +kernel)
      have qT : (Dat.tup []).seq = true := by decide +kernel
      have lT : lenR (Dat.tup []).runs ≤ 400 := by decide +kernel
      have i30 : (Dat.int ((10 : Int) ^ ((30 : Int).toNat))).inI 0 1000000000000000000000000000000 = true := by decide +kernel
      have aF : AftOk dF.runs Dat.non.stt ((10 : Int) ^ ((30 : Int).toNat)) 1 := by
        rw [runF, q30]
        exact aft_full
      have aE : AftOk (Dat.lst []).runs Dat.non.stt 0 0 := aft_empty
      have fC : (Dat.tup [.str "c", .int ((10 : Int) ^ ((39 : Int).toNat))]).fit2 := fit2B_ok (by decide +kernel)
      have sC : (Dat.tup [.str "c", .int ((10 : Int) ^ ((39 : Int).toNat))]).state = true := by decide +kernel
      have h2 : grR dF.runs = none → StB (Dat.tup [.str "c", .int ((10 : Int) ^ ((39 : Int).toNat))]).stt ∧ ∃ k : Nat, CEnd dF.runs none 1000000000000000000000000000000 (fallenR dF.runs (Dat.tup [.str "c", .int ((10 : Int) ^ ((39 : Int).toNat))]).stt) k ∧ k ≤ 100000 := fun _ => by
        rw [runF, q39]
        exact ret_full
      have h3 : ∀ g, grR dF.runs = some g → StB (Dat.tup [.str "c", .int ((10 : Int) ^ ((39 : Int).toNat))]).stt ∧ ∃ k : Nat, CEnd dF.runs (some g) 1000000000000000000000000000000 (fallenR dF.runs (Dat.tup [.str "c", .int ((10 : Int) ^ ((39 : Int).toNat))]).stt) k ∧ k ≤ 100000 := fun g e => by
        rw [runF, full_gr] at e
        cases e
      have sT : Same H9 H9 := Same.refl _
      refine lit_set (d := .lst [.tup [.int 0, .tup [dB, dO, dW], .str "sequence"], .tup [.int 0, .tup [dL, dO, dW], .str "long"]]) (lit_lst (lits_cons (lit_tup (lits_cons lit_int (lits_cons (lit_tup (lits_cons (lit_var rfl rB) (lits_cons (lit_var rfl rO) (lits_cons (lit_var rfl rW) lits_nil))) (Nat.le_of_ble_eq_true rfl)) (lits_cons lit_str lits_nil))) (Nat.le_of_ble_eq_true rfl)) (lits_cons (lit_tup (lits_cons lit_int (lits_cons (lit_tup (lits_cons (lit_var rfl rL) (lits_cons (lit_var rfl rO) (lits_cons (lit_var rfl rW) lits_nil))) (Nat.le_of_ble_eq_true rfl)) (lits_cons lit_str lits_nil))) (Nat.le_of_ble_eq_true rfl)) lits_nil)) (Nat.le_of_ble_eq_true rfl)) (fun Hr0 vr sr rr => ?_)
      have gg : GoodR [.tup [.int 0, .tup [dB, dO, dW], .str "sequence"], .tup [.int 0, .tup [dL, dO, dW], .str "long"]] := goodR_cons ⟨⟨_, _, _, rfl, .d0q fB fW qB⟩, nis_row (by omega) (Nat.le_of_ble_eq_true rfl) (kind_ok (by decide +kernel)) (consN (nB) (consN (nO) (consN (nW) (nilN))))⟩ (goodR_cons ⟨⟨_, _, _, rfl, .d0l fL fW qL lL⟩, nis_row (by omega) (Nat.le_of_ble_eq_true rfl) (kind_ok (by decide +kernel)) (consN (nL) (consN (nO) (consN (nW) (nilN))))⟩ (goodR_nil))
      have ll : ([.tup [.int 0, .tup [dB, dO, dW], .str "sequence"], .tup [.int 0, .tup [dL, dO, dW], .str "long"]] : List Dat).length ≤ 2 := Nat.le_of_ble_eq_true rfl
      generalize ([.tup [.int 0, .tup [dB, dO, dW], .str "sequence"], .tup [.int 0, .tup [dL, dO, dW], .str "long"]] : List Dat) = l at rr gg ll
      have rB := rB.same sr
      have rW := rW.same sr
      have rO := rO.same sr
      have rL := rL.same sr
      have rF := rF.same sr
      have rG := rG.same sr
      have sT := sT.trans sr
      refine lit_set (d := .lst (l ++ [.tup [.int 0, .tup [dG, dO, dW], .str "number"], .tup [.int 0, .tup [dG, .int 0, dW], .str "state"]])) (lit_cat (lit_var rfl rr) (lit_lst (lits_cons (lit_tup (lits_cons lit_int (lits_cons (lit_tup (lits_cons (lit_var rfl rG) (lits_cons (lit_var rfl rO) (lits_cons (lit_var rfl rW) lits_nil))) (Nat.le_of_ble_eq_true rfl)) (lits_cons lit_str lits_nil))) (Nat.le_of_ble_eq_true rfl)) (lits_cons (lit_tup (lits_cons lit_int (lits_cons (lit_tup (lits_cons (lit_var rfl rG) (lits_cons lit_int (lits_cons (lit_var rfl rW) lits_nil))) (Nat.le_of_ble_eq_true rfl)) (lits_cons lit_str lits_nil))) (Nat.le_of_ble_eq_true rfl)) lits_nil)) (Nat.le_of_ble_eq_true rfl)) (by show l.length + 2 ≤ 1000; omega)) (fun Hr1 vr sr rr => ?_)
      have gg : GoodR (l ++ [.tup [.int 0, .tup [dG, dO, dW], .str "number"], .tup [.int 0, .tup [dG, .int 0, dW], .str "state"]]) := goodR_app gg (goodR_cons ⟨⟨_, _, _, rfl, .d0n fG fW qG lG oO⟩, nis_row (by omega) (Nat.le_of_ble_eq_true rfl) (kind_ok (by decide +kernel)) (consN (nG) (consN (nO) (consN (nW) (nilN))))⟩ (goodR_cons ⟨⟨_, _, _, rfl, .d0s fG fW qG lG (by decide +kernel) sW⟩, nis_row (by omega) (Nat.le_of_ble_eq_true rfl) (kind_ok (by decide +kernel)) (consN (nG) (consN (nis_of (by decide +kernel)) (consN (nW) (nilN))))⟩ (goodR_nil)))
      have ll : (l ++ ([.tup [.int 0, .tup [dG, dO, dW], .str "number"], .tup [.int 0, .tup [dG, .int 0, dW], .str "state"]] : List Dat)).length ≤ 2 + 2 := by rw [List.length_append]; exact Nat.add_le_add_right ll _
      generalize l ++ ([.tup [.int 0, .tup [dG, dO, dW], .str "number"], .tup [.int 0, .tup [dG, .int 0, dW], .str "state"]] : List Dat) = l at rr gg ll
      have rB := rB.same sr
      have rW := rW.same sr
      have rO := rO.same sr
      have rL := rL.same sr
      have rF := rF.same sr
      have rG := rG.same sr
      have sT := sT.trans sr
      refine lit_set (d := .lst (l ++ [.tup [.int 0, .tup [dF, .int ((10 : Int) ^ ((30 : Int).toNat)), .non], .str "none"], .tup [.int 0, .tup [.lst [], .int 0, .non], .str "none"]])) (lit_cat (lit_var rfl rr) (lit_lst (lits_cons (lit_tup (lits_cons lit_int (lits_cons (lit_tup (lits_cons (lit_var rfl rF) (lits_cons (lit_val (v := .int ((10 : Int) ^ ((30 : Int).toNat))) (fun H Q q => ⟨_, _, rfl, rfl, ⟨by decide, by decide, by decide⟩, q⟩) (fun H => .int _)) (lits_cons lit_non lits_nil))) (Nat.le_of_ble_eq_true rfl)) (lits_cons lit_str lits_nil))) (Nat.le_of_ble_eq_true rfl)) (lits_cons (lit_tup (lits_cons lit_int (lits_cons (lit_tup (lits_cons (lit_lst lits_nil (Nat.le_of_ble_eq_true rfl)) (lits_cons lit_int (lits_cons lit_non lits_nil))) (Nat.le_of_ble_eq_true rfl)) (lits_cons lit_str lits_nil))) (Nat.le_of_ble_eq_true rfl)) lits_nil)) (Nat.le_of_ble_eq_true rfl)) (by show l.length + 2 ≤ 1000; omega)) (fun Hr2 vr sr rr => ?_)
      have gg : GoodR (l ++ [.tup [.int 0, .tup [dF, .int ((10 : Int) ^ ((30 : Int).toNat)), .non], .str "none"], .tup [.int 0, .tup [.lst [], .int 0, .non], .str "none"]]) := goodR_app gg (goodR_cons ⟨⟨_, _, _, rfl, .d0o fF fN qF lF i30 rfl ⟨_, 1, rfl, aF⟩⟩, nis_row (by omega) (Nat.le_of_ble_eq_true rfl) (kind_ok (by decide +kernel)) (consN (nF) (consN (nis_of (by decide +kernel)) (consN (nis_of (by decide +kernel)) (nilN))))⟩ (goodR_cons ⟨⟨_, _, _, rfl, .d0o fE fN qE lE (by decide +kernel) rfl ⟨_, 0, rfl, aE⟩⟩, nis_row (by omega) (Nat.le_of_ble_eq_true rfl) (kind_ok (by decide +kernel)) (consN (nis_of (by decide +kernel)) (consN (nis_of (by decide +kernel)) (consN (nis_of (by decide +kernel)) (nilN))))⟩ (goodR_nil)))
      have ll : (l ++ ([.tup [.int 0, .tup [dF, .int ((10 : Int) ^ ((30 : Int).toNat)), .non], .str "none"], .tup [.int 0, .tup [.lst [], .int 0, .non], .str "none"]] : List Dat)).length ≤ 2 + 2 + 2 := by rw [List.length_append]; exact Nat.add_le_add_right ll _
      generalize l ++ ([.tup [.int 0, .tup [dF, .int ((10 : Int) ^ ((30 : Int).toNat)), .non], .str "none"], .tup [.int 0, .tup [.lst [], .int 0, .non], .str "none"]] : List Dat) = l at rr gg ll
      have rB := rB.same sr
      have rW := rW.same sr
      have rO := rO.same sr
      have rL := rL.same sr
      have rF := rF.same sr
      have rG := rG.same sr
      have sT := sT.trans sr
      refine lit_set (d := .lst (l ++ [.tup [.int 1, .tup [dB], .str "sequence"], .tup [.int 1, .tup [dL], .str "long"], .tup [.int 1, .tup [dF], .str "none"], .tup [.int 1, .tup [.tup []], .str "none"]])) (lit_cat (lit_var rfl rr) (lit_lst (lits_cons (lit_tup (lits_cons lit_int (lits_cons (lit_tup (lits_cons (lit_var rfl rB) lits_nil) (Nat.le_of_ble_eq_true rfl)) (lits_cons lit_str lits_nil))) (Nat.le_of_ble_eq_true rfl)) (lits_cons (lit_tup (lits_cons lit_int (lits_cons (lit_tup (lits_cons (lit_var rfl rL) lits_nil) (Nat.le_of_ble_eq_true rfl)) (lits_cons lit_str lits_nil))) (Nat.le_of_ble_eq_true rfl)) (lits_cons (lit_tup (lits_cons lit_int (lits_cons (lit_tup (lits_cons (lit_var rfl rF) lits_nil) (Nat.le_of_ble_eq_true rfl)) (lits_cons lit_str lits_nil))) (Nat.le_of_ble_eq_true rfl)) (lits_cons (lit_tup (lits_cons lit_int (lits_cons (lit_tup (lits_cons (lit_tup lits_nil (Nat.le_of_ble_eq_true rfl)) lits_nil) (Nat.le_of_ble_eq_true rfl)) (lits_cons lit_str lits_nil))) (Nat.le_of_ble_eq_true rfl)) lits_nil)))) (Nat.le_of_ble_eq_true rfl)) (by show l.length + 4 ≤ 1000; omega)) (fun Hr3 vr sr rr => ?_)
      have gg : GoodR (l ++ [.tup [.int 1, .tup [dB], .str "sequence"], .tup [.int 1, .tup [dL], .str "long"], .tup [.int 1, .tup [dF], .str "none"], .tup [.int 1, .tup [.tup []], .str "none"]]) := goodR_app gg (goodR_cons ⟨⟨_, _, _, rfl, .d1q fB qB⟩, nis_row (by omega) (Nat.le_of_ble_eq_true rfl) (kind_ok (by decide +kernel)) (consN (nB) (nilN))⟩ (goodR_cons ⟨⟨_, _, _, rfl, .d1l fL qL lL⟩, nis_row (by omega) (Nat.le_of_ble_eq_true rfl) (kind_ok (by decide +kernel)) (consN (nL) (nilN))⟩ (goodR_cons ⟨⟨_, _, _, rfl, .d1o fF qF lF⟩, nis_row (by omega) (Nat.le_of_ble_eq_true rfl) (kind_ok (by decide +kernel)) (consN (nF) (nilN))⟩ (goodR_cons ⟨⟨_, _, _, rfl, .d1o fT qT lT⟩, nis_row (by omega) (Nat.le_of_ble_eq_true rfl) (kind_ok (by decide +kernel)) (consN (nis_of (by decide +kernel)) (nilN))⟩ (goodR_nil)))))
      have ll : (l ++ ([.tup [.int 1, .tup [dB], .str "sequence"], .tup [.int 1, .tup [dL], .str "long"], .tup [.int 1, .tup [dF], .str "none"], .tup [.int 1, .tup [.tup []], .str "none"]] : List Dat)).length ≤ 2 + 2 + 2 + 4 := by rw [List.length_append]; exact Nat.add_le_add_right ll _
      generalize l ++ ([.tup [.int 1, .tup [dB], .str "sequence"], .tup [.int 1, .tup [dL], .str "long"], .tup [.int 1, .tup [dF], .str "none"], .tup [.int 1, .tup [.tup []], .str "none"]] : List Dat) = l at rr gg ll
      have rB := rB.same sr
      have rW := rW.same sr
      have rO := rO.same sr
      have rL := rL.same sr
      have rF := rF.same sr
      have rG := rG.same sr
      have sT := sT.trans sr
      -- the doors 2 and 3
      refine ⟨(by show 2 ≤ sizeLine; decide), fun tt nt => ⟨tt, rfl, ⟨_, .of upd_same⟩, ?_⟩⟩
      have st := same_upd (o := .tup [.int 2, .int 3]) nt
      have ht : (upd Hr3 tt (.tup [.int 2, .int 3])) tt = some (.tup [.int 2, .int 3]) := upd_same
      have rB := rB.same st
      have rW := rW.same st
      have rO := rO.same st
      have rL := rL.same st
      have rF := rF.same st
      have rG := rG.same st
      have rr := rr.same st
      have sT := sT.trans st
      generalize upd Hr3 tt (.tup [.int 2, .int 3]) = Hd at *
      refine for_tup (K := K) (a := tt) (xs := [.int 2, .int 3]) (fun j σ H' => ∃ vr l y7, σ = [some (.ref a), some (.ref p), some (.int (0 + i)), y3, some vO, some (.int f), some vr, y7, y8, some vB, some vW, some vL, some vF, some vG, y14, y15] ∧ Same Hd H' ∧ Rp H' vr (.lst l) ∧ GoodR l ∧ l.length ≤ 10 + 4 * j) ⟨vr, l, y7, rfl, Same.refl _, rr, gg, by omega⟩ (fun j σ H' _ hP => ?_) (fun j x σ H' ex hP => ?_) (fun σ H' hP => ?_)
      · obtain ⟨_, _, _, _, sm, _⟩ := hP
        exact .of (sm _ _ ht)
      · obtain ⟨vr, l, y7, rfl, sm, rr, gg, ll⟩ := hP
        obtain ⟨dr, rfl, hdr⟩ : ∃ dr : Int, x = .int dr ∧ (dr = 2 ∨ dr = 3) := by
          match j, ex with
          | 0, ex => exact ⟨2, (Option.some.inj ex).symm, .inl rfl⟩
          | 1, ex => exact ⟨3, (Option.some.inj ex).symm, .inr rfl⟩
        have hj : j < 2 := (List.getElem?_eq_some_iff.mp ex).1
        have sT : Same Hd H' := sm
        have rB := rB.same sm
        have rW := rW.same sm
        have rO := rO.same sm
        have rL := rL.same sm
        have rF := rF.same sm
        have rG := rG.same sm
        refine g_stepF ?_
        refine lit_set (d := .lst (l ++ [.tup [.int dr, .tup [dB, dW], .str "sequence"], .tup [.int dr, .tup [dL, dW], .str "long"]])) (lit_cat (lit_var rfl rr) (lit_lst (lits_cons (lit_tup (lits_cons (lit_var rfl (.int _)) (lits_cons (lit_tup (lits_cons (lit_var rfl rB) (lits_cons (lit_var rfl rW) lits_nil)) (Nat.le_of_ble_eq_true rfl)) (lits_cons lit_str lits_nil))) (Nat.le_of_ble_eq_true rfl)) (lits_cons (lit_tup (lits_cons (lit_var rfl (.int _)) (lits_cons (lit_tup (lits_cons (lit_var rfl rL) (lits_cons (lit_var rfl rW) lits_nil)) (Nat.le_of_ble_eq_true rfl)) (lits_cons lit_str lits_nil))) (Nat.le_of_ble_eq_true rfl)) lits_nil)) (Nat.le_of_ble_eq_true rfl)) (by show l.length + 2 ≤ 1000; omega)) (fun Hr4 vr sr rr => ?_)
        have gg : GoodR (l ++ [.tup [.int dr, .tup [dB, dW], .str "sequence"], .tup [.int dr, .tup [dL, dW], .str "long"]]) := goodR_app gg (goodR_cons ⟨⟨_, _, _, rfl, err23 hdr (.d2q fB fW qB) (.d3q fB fW qB)⟩, nis_row (by omega) (Nat.le_of_ble_eq_true rfl) (kind_ok (by decide +kernel)) (consN (nB) (consN (nW) (nilN)))⟩ (goodR_cons ⟨⟨_, _, _, rfl, err23 hdr (.d2l fL fW qL lL) (.d3l fL fW qL lL)⟩, nis_row (by omega) (Nat.le_of_ble_eq_true rfl) (kind_ok (by decide +kernel)) (consN (nL) (consN (nW) (nilN)))⟩ (goodR_nil)))
        have ll : (l ++ ([.tup [.int dr, .tup [dB, dW], .str "sequence"], .tup [.int dr, .tup [dL, dW], .str "long"]] : List Dat)).length ≤ 10 + 4 * j + 2 := by rw [List.length_append]; exact Nat.add_le_add_right ll _
        generalize l ++ ([.tup [.int dr, .tup [dB, dW], .str "sequence"], .tup [.int dr, .tup [dL, dW], .str "long"]] : List Dat) = l at rr gg ll
        have rB := rB.same sr
        have rW := rW.same sr
        have rO := rO.same sr
        have rL := rL.same sr
        have rF := rF.same sr
        have rG := rG.same sr
        have sT := sT.trans sr
        refine lit_set1 (d := .lst (l ++ [.tup [.int dr, .tup [dG, dW], .str "state"], .tup [.int dr, .tup [dF, .tup [.str "c", .int ((10 : Int) ^ ((39 : Int).toNat))]], .str "none"]])) (lit_cat (lit_var rfl rr) (lit_lst (lits_cons (lit_tup (lits_cons (lit_var rfl (.int _)) (lits_cons (lit_tup (lits_cons (lit_var rfl rG) (lits_cons (lit_var rfl rW) lits_nil)) (Nat.le_of_ble_eq_true rfl)) (lits_cons lit_str lits_nil))) (Nat.le_of_ble_eq_true rfl)) (lits_cons (lit_tup (lits_cons (lit_var rfl (.int _)) (lits_cons (lit_tup (lits_cons (lit_var rfl rF) (lits_cons (lit_tup (lits_cons lit_str (lits_cons (lit_val (v := .int ((10 : Int) ^ ((39 : Int).toNat))) (fun H Q q => ⟨_, _, rfl, rfl, ⟨by decide, by decide, by decide⟩, q⟩) (fun H => .int _)) lits_nil)) (Nat.le_of_ble_eq_true rfl)) lits_nil)) (Nat.le_of_ble_eq_true rfl)) (lits_cons lit_str lits_nil))) (Nat.le_of_ble_eq_true rfl)) lits_nil)) (Nat.le_of_ble_eq_true rfl)) (by show l.length + 2 ≤ 1000; omega)) (fun Hr5 vr sr rr => ?_)
        have gg : GoodR (l ++ [.tup [.int dr, .tup [dG, dW], .str "state"], .tup [.int dr, .tup [dF, .tup [.str "c", .int ((10 : Int) ^ ((39 : Int).toNat))]], .str "none"]]) := goodR_app gg (goodR_cons ⟨⟨_, _, _, rfl, err23 hdr (.d2s fG fW qG lG sW) (.d3s fG fW qG lG sW)⟩, nis_row (by omega) (Nat.le_of_ble_eq_true rfl) (kind_ok (by decide +kernel)) (consN (nG) (consN (nW) (nilN)))⟩ (goodR_cons ⟨⟨_, _, _, rfl, err23 hdr (.d2o fF fC qF lF sC h2) (.d3o fF fC qF lF sC h3)⟩, nis_row (by omega) (Nat.le_of_ble_eq_true rfl) (kind_ok (by decide +kernel)) (consN (nF) (consN (nis_of (by decide +kernel)) (nilN)))⟩ (goodR_nil)))
        have ll : (l ++ ([.tup [.int dr, .tup [dG, dW], .str "state"], .tup [.int dr, .tup [dF, .tup [.str "c", .int ((10 : Int) ^ ((39 : Int).toNat))]], .str "none"]] : List Dat)).length ≤ 10 + 4 * j + 2 + 2 := by rw [List.length_append]; exact Nat.add_le_add_right ll _
        generalize l ++ ([.tup [.int dr, .tup [dG, dW], .str "state"], .tup [.int dr, .tup [dF, .tup [.str "c", .int ((10 : Int) ^ ((39 : Int).toNat))]], .str "none"]] : List Dat) = l at rr gg ll
        have rB := rB.same sr
        have rW := rW.same sr
        have rO := rO.same sr
        have rL := rL.same sr
        have rF := rF.same sr
        have rG := rG.same sr
        have sT := sT.trans sr
        exact ⟨vr, l, _, rfl, sT, rr, gg, by omega⟩
      obtain ⟨vr, l, y7, rfl, sm, rr, gg, ll⟩ := hP
      have ll : l.length ≤ 18 := ll
      have rB := rB.same sm
      have rW := rW.same sm
      have rO := rO.same sm
      have rL := rL.same sm
      have rF := rF.same sm
      have rG := rG.same sm
      have sT := sT.trans sm
      -- kept
      obtain ⟨k1, k2, k3⟩ := (nis_lst (w := 4600) (n := 6) (l := l) fun d hd => (gg d hd).2).fits (by have := Nat.mul_le_mul_left 4601 ll; omega) (by decide)
      obtain ⟨rA, xs, rfl, hx, hpr⟩ : ∃ rA xs, vr = .ref rA ∧ H' rA = some (.lst xs) ∧ Paired (Rp H') xs l := by
        cases rr with
        | lst e p => exact ⟨_, _, rfl, e, p⟩
      refine ⟨_, rfl, rA, .lst l, rfl, rr, k1, k2, k3, ?_⟩
      refine ⟨_, rfl, rA, rfl, ⟨xs, .of hx⟩, for_list (K := K) (a := rA) (xs := xs) (fun j σ H'' => ∃ y7 y14 y15, σ = [some (.ref a), some (.ref p), some (.int (0 + i)), y3, some vO, some (.int f), some (.ref rA), y7, some (.str (Dat.lst l).py.shown), some vB, some vW, some vL, some vF, some vG, y14, y15] ∧ Same H' H'') ⟨_, _, _, rfl, Same.refl _⟩ (fun j σ H'' _ hP => ?_) (fun j x σ H'' ex hP => ?_) (fun σ H'' hP => ?_)⟩
      · obtain ⟨_, _, _, _, sm⟩ := hP
        exact .of (sm _ _ hx)
      · obtain ⟨y7, y14, y15, rfl, sm⟩ := hP
        obtain ⟨dx, ed, hdx⟩ := Paired.at hpr ex
        obtain ⟨⟨k, ps, due, rfl, er⟩, _⟩ := gg dx (List.mem_of_getElem? ed)
        obtain ⟨t, v1, v2, v3, rfl, ht, h1, h2, h3⟩ := tup3_of (hdx.same sm)
        cases h1
        cases h3
        refine ⟨t, _, rfl, .of ht, rfl, _, _, rfl, _, _, rfl, _, _, rfl, rfl, ?_⟩
        exact ⟨_, rfl, _, rfl, k, v2, ps, due, rfl, h2, er, fun H8 s8 => ⟨_, rfl, rfl, _, rfl, iteN (by rw [decide_eq_true rfl]; rfl) ⟨_, _, _, rfl, sm.trans s8⟩⟩⟩
      obtain ⟨y7, y14, y15, rfl, sm⟩ := hP
      refine ⟨_, rfl, rA, .lst l, rfl, rr.same sm, k1, k2, k3, _, rfl, rfl, _, rfl, iteN (by rw [decide_eq_true rfl]; rfl) ?_⟩
      exact ⟨_, _, _, _, _, _, _, _, _, _, _, _, _, _, rfl, (z9.same sT).same sm⟩
    · obtain ⟨y2, y3, y4, y5, y6, y7, y8, y9, y10, y11, y12, y13, y14, y15, rfl, z2⟩ := hP
      refine nx_step ?_
      refine lit_set (d := .lst [.tup [.str "a", .int 1], .tup [.str "b", .int 1]]) (lit_lst (lits_cons (lit_tup (lits_cons lit_str (lits_cons lit_int lits_nil)) (Nat.le_of_ble_eq_true rfl)) (lits_cons (lit_tup (lits_cons lit_str (lits_cons lit_int lits_nil)) (Nat.le_of_ble_eq_true rfl)) lits_nil)) (Nat.le_of_ble_eq_true rfl)) (fun Ha vp sa rp => ?_)
      refine ⟨(by show 2 ≤ sizeLine; decide), fun t1 n1 => ⟨(by show 1 ≤ sizeLine; decide), fun l1 nl1 => ⟨(by show 2 ≤ sizeLine; decide), fun t2 n2 => ?_⟩⟩⟩
      have u1 := same_upd (o := .tup [.str "a", .int 1]) n1
      have u2 := same_upd (o := .lst [.ref t1]) nl1
      have u3 := same_upd (o := .tup [.str "a", .int 1]) n2
      have fitO : (Dat.lst [.tup [.str "a", .int 1]]).fits := fitsB_ok (by decide +kernel)
      have seqO : (Dat.lst [.tup [.str "a", .int 1]]).seq = true := by decide +kernel
      have lenO : lenR (Dat.lst [.tup [.str "a", .int 1]]).runs ≤ 400 := by decide +kernel
      have staO : (Dat.tup [.str "a", .int 1]).state = true := by decide +kernel
      have fitS : (Dat.tup [.str "a", .int 1]).fit2 := fit2B_ok (by decide +kernel)
      have inO : (Dat.int 2).inI 0 1000000000000000000000000000000 = true := by decide +kernel
      refine ⟨rfl, rfl, .ref l1, .int 2, .ref t2, .lst [.tup [.str "a", .int 1]], .int 2, .tup [.str "a", .int 1], rfl, .lst (u3 _ _ upd_same) (.cons (.tup ((u2.trans u3) _ _ upd_same) (.cons (.str _) (.cons (.int _) .nil))) .nil), fitO, .int _, .tup upd_same (.cons (.str _) (.cons (.int _) .nil)), fitS, fun _ _ _ _ => ⟨2, 0, rfl, aft_one, fun H4 v4 s4 h4 => ?_⟩, fun c => ?_, fun _ c => ?_, fun _ _ c => ?_, fun _ _ _ c => ?_⟩
      rotate_left
      · rw [seqO] at c; cases c
      · exact absurd c (by omega)
      · rw [inO] at c; cases c
      · rw [staO] at c; cases c
      have h4 : StV H4 v4 (some (("a" : Str), 3)) := by
        rw [← aft_one_is]
        exact h4
      have okA : StOk (some (("a" : Str), 3)) := fun r e => by
        cases e
        exact ⟨kind_ok (by decide +kernel), by decide⟩
      refine ⟨(by show 2 ≤ sizeLine; decide), fun t3 n3 => ?_⟩
      refine ⟨dOt (some (("a" : Str), 3)), dOt (some (("a" : Str), 3)), dp_o (h4.same (same_upd n3)), dp_o (H := upd H4 t3 _) ⟨t3, rfl, upd_same⟩, shaped_o okA, shaped_o okA, _, rfl, iteN ?_ ?_⟩
      · rw [eqv_o, decide_eq_true rfl]
        rfl
      have sB := (u1.trans (u2.trans u3)).trans (s4.trans (same_upd (o := .tup [.str "a", .int 3]) n3))
      have fitP : (Dat.lst [.tup [.str "a", .int 1], .tup [.str "b", .int 1]]).fits := fitsB_ok (by decide +kernel)
      have seqP : (Dat.lst [.tup [.str "a", .int 1], .tup [.str "b", .int 1]]).seq = true := by decide +kernel
      have lenP : lenR (Dat.lst [.tup [.str "a", .int 1], .tup [.str "b", .int 1]]).runs ≤ 400 := by decide +kernel
      refine ⟨_, rfl, rfl, rfl, vp, .non, .lst [.tup [.str "a", .int 1], .tup [.str "b", .int 1]], .non, rfl, rp.same sB, fitP, .non, fit2B_ok rfl, fun _ _ _ => ⟨fun c => absurd pair_gr c, fun _ => ⟨(fun r e => by cases e), 1, ce_loop pair_none (by decide), by decide, fun H5 t5 s5 h5 => ?_⟩⟩, fun c => ?_, fun _ c => ?_, fun _ _ c => ?_⟩
      rotate_left
      · rw [seqP] at c; cases c
      · exact absurd c (by omega)
      · cases c
      have h5 : H5 t5 = some (.tup [.int 0, .int 1]) := by
        rw [h5]
        show some (HO.tup [.int (0 + (startR (courseR pairR none 1) : Nat)), .int (((1 : Nat) : Int) - (startR (courseR pairR none 1) : Nat))]) = _
        rw [st_loop pair_none]
        rfl
      refine ⟨(by show 2 ≤ sizeLine; decide), fun t6 n6 => ?_⟩
      have u6 := same_upd (o := .tup [.int 0, .int 1]) n6
      refine ⟨.tuple [.int 0, .int 1], .tuple [.int 0, .int 1], .tup (.of (u6 _ _ h5)) (.cons (.int _) (.cons (.int _) .nil)), .tup (.of upd_same) (.cons (.int _) (.cons (.int _) .nil)), by decide, by decide, _, rfl, iteN ?_ ?_⟩
      · show (!PyData.eqv (.tuple [.int 0, .int 1]) (.tuple [.int 0, .int 1])) = false
        simp [PyData.eqv, PyData.eqvAll]
      refine ⟨(by show 2 ≤ sizeLine; decide), fun t7 n7 => ⟨(by show 1 ≤ sizeLine; decide), fun l7 nl7 => ⟨(by show 2 ≤ sizeLine; decide), fun t8 n8 => ?_⟩⟩⟩
      have w1 := same_upd (o := .tup [.str "a", .int 1]) n7
      have w2 := same_upd (o := .lst [.ref t7]) nl7
      have w3 := same_upd (o := .tup [.str "b", .int 2]) n8
      have staB : (Dat.tup [.str "b", .int 2]).state = true := by decide +kernel
      refine ⟨rfl, rfl, .ref l7, .ref t8, .lst [.tup [.str "a", .int 1]], .tup [.str "b", .int 2], rfl, .lst (w3 _ _ upd_same) (.cons (.tup ((w2.trans w3) _ _ upd_same) (.cons (.str _) (.cons (.int _) .nil))) .nil), fitO, .tup upd_same (.cons (.str _) (.cons (.int _) .nil)), fit2B_ok (by decide +kernel), fun _ _ _ => ⟨fun c => ?_, fun g e => ?_⟩, fun c => ?_, fun _ c => ?_, fun _ _ c => ?_⟩
      · have c : grR oneR = none := c
        rw [one_gr] at c
        cases c
      · have e : grR oneR = some g := e
        rw [one_gr] at e
        cases e
        refine ⟨fun r e => ?_, 1, ?_, by decide, fun H9 s9 => ?_⟩
        · cases e
          exact Nat.lt_of_lt_of_le (show (2 : Nat) < 2 ^ 200 by decide) (Nat.pow_le_pow_right (by decide) (by decide))
        · show CEnd oneR _ _ (fallenR oneR (some (("b" : Str), 2))) 1
          rw [fall_one.1]
          exact ce_one
        · refine ⟨rfl, ?_⟩
          have e9 : frR oneR (some (("b" : Str), 2)) + (backR (courseR oneR (fallenR oneR (some (("b" : Str), 2))) 1) (("a" : Str), 1) 1 : Nat) = 2 := by
            rw [fall_one.1, fall_one.2, back_one]
            rfl
          have q := q H9
          rw [show true = decide (V.int (frR oneR (some (("b" : Str), 2)) + (backR (courseR oneR (fallenR oneR (some (("b" : Str), 2))) 1) (("a" : Str), 1) 1 : Nat)) = V.int 2) from (decide_eq_true (congrArg V.int e9)).symm] at q
          exact q
      · rw [seqO] at c; cases c
      · exact absurd c (by omega)
      · rw [staB] at c; cases c
end
end UP

set_option Elab.async false
set_option linter.all false
set_option maxRecDepth 100000
set_option maxHeartbeats 4000000
namespace UP
open PySem PySem.Spec PyProof.Rows L2
section
variable {K : PySem.W.Frag} {h : Heap} {mg : Str → Option Value}
theorem df_mk {x : Str} {st : Stmt} {f : Addr} {od an : Option Addr} {sl : Array (Option Value)} {oc kV dc pm cd ct : Value} (X : K.In h) (G : h.Ns mainGlobals mg) (a : PySem.W.nsIn K mainGlobals x = some (some (.ref f)))
    (l : K.lookup f = some ⟨oc, od, .func (PySem.W.fnOf x x (defArgs st) (defBody st) (defScope st) .none kV dc pm an cd ct), sl⟩) (c : PySem.W.codeIn K cd x = true) (k : PySem.W.keepIn K (.ref f) = true) : Df K mg x st :=
  ⟨f, _, PySem.W.mg_of X G a, fun_mk l c k⟩
theorem dfd_mk {x : Str} {st : Stmt} {f T : Addr} {od an od2 : Option Addr} {sl sl2 : Array (Option Value)} {n2 : Nat} {oc kV dc pm cd ct oc2 : Value} (X : K.In h) (G : h.Ns mainGlobals mg) (a : PySem.W.nsIn K mainGlobals x = some (some (.ref f)))
    (l : K.lookup f = some ⟨oc, od, .func (PySem.W.fnOf x x (defArgs st) (defBody st) (defScope st) (.ref T) kV dc pm an cd ct), sl⟩) (t : K.lookup T = some ⟨oc2, od2, .seq #[.none] n2, sl2⟩) (c : PySem.W.codeIn K cd x = true) (k : PySem.W.keepIn K (.ref f) = true) : DfD K mg x st [.non] :=
  ⟨f, _, PySem.W.mg_of X G a, ⟨⟨oc, od, _, kV, dc, pm, an, cd, ct, sl, rfl, l, c, .inr ⟨(by intro z; cases z), T, _, [.none], n2, rfl, t, rfl, .cons rfl .nil⟩, .inl rfl⟩, k⟩⟩
theorem cst_mk {x : Str} {i : Int} {t : Tok} (X : K.In h) (G : h.Ns mainGlobals mg) (a : PySem.W.nsIn K mainGlobals x = some (some (.int i t))) : ∃ t, mg x = some (.int i t) := ⟨t, PySem.W.mg_of X G a⟩
end
theorem dfdi_mk {K : PySem.W.Frag} {h : Heap} {mg : Str → Option Value} {i : Int} {tk : Tok} {x : Str} {st : Stmt} {f T : Addr} {od an od2 : Option Addr} {sl sl2 : Array (Option Value)} {n2 : Nat} {oc kV dc pm cd ct oc2 : Value} (X : K.In h) (G : h.Ns mainGlobals mg) (a : PySem.W.nsIn K mainGlobals x = some (some (.ref f)))
    (l : K.lookup f = some ⟨oc, od, .func (PySem.W.fnOf x x (defArgs st) (defBody st) (defScope st) (.ref T) kV dc pm an cd ct), sl⟩) (t : K.lookup T = some ⟨oc2, od2, .seq #[.int i tk] n2, sl2⟩) (c : PySem.W.codeIn K cd x = true) (k : PySem.W.keepIn K (.ref f) = true) : DfD K mg x st [.int i] :=
  ⟨f, _, PySem.W.mg_of X G a, ⟨⟨oc, od, _, kV, dc, pm, an, cd, ct, sl, rfl, l, c, .inr ⟨(by intro z; cases z), T, _, [.int i tk], n2, rfl, t, rfl, .cons ⟨tk, rfl⟩ .nil⟩, .inl rfl⟩, k⟩⟩
/-! ### the classes -/
def CA (mg : Str → Option Value) (n : Str) : Addr := match mg n with
  | some (.ref C) => C
  | _ => 0
theorem ca_of {mg : Str → Option Value} {n : Str} {C : Addr} (h : mg n = some (.ref C)) : CA mg n = C := by
  unfold CA
  rw [h]
def P2 (K : PySem.W.Frag) (mg : Str → Option Value) (nm n : Str) (r : Bool) : Prop := ∃ D C, mg nm = some (.ref D) ∧ mg n = some (.ref C) ∧ PySem.W.kitOne K (.ref D) (.ref C) = some r
def P1 (K : PySem.W.Frag) (mg : Str → Option Value) (nm : Str) : Prop := ∃ D B, mg nm = some (.ref D) ∧ mg "PairError" = some (.ref B) ∧ Ex K mg nm D ∧ ExcC K D ∧ PySem.W.exmOne K (.ref D) (.ref B) = some true ∧ PySem.W.kitOne K (.ref D) (.ref B) = some true ∧ PySem.W.kitOne K (.ref D) (.type "ValueError") = some true
section
variable {K : PySem.W.Frag} {h : Heap} {mg : Str → Option Value}
theorem p2_mk {nm n : Str} {r : Bool} {D C : Addr} (X : K.In h) (G : h.Ns mainGlobals mg) (a : PySem.W.nsIn K mainGlobals nm = some (some (.ref D))) (b : PySem.W.nsIn K mainGlobals n = some (some (.ref C))) (k : PySem.W.kitOne K (.ref D) (.ref C) = some r) : P2 K mg nm n r := ⟨D, C, PySem.W.mg_of X G a, PySem.W.mg_of X G b, k⟩
theorem p1_mk {nm : Str} {D B : Addr} (X : K.In h) (G : h.Ns mainGlobals mg) (a : PySem.W.nsIn K mainGlobals nm = some (some (.ref D))) (b : PySem.W.nsIn K mainGlobals "PairError" = some (some (.ref B)))
    (x : PySem.W.excIn K D [.type "ValueError", .type "Exception", .type "BaseException", .type "object"] "ValueError.__new__" = true) (k : PySem.W.keepIn K (.ref D) = true) (bs : PySem.W.subIn K (.ref D) (.type "BaseException") = some true) (t : PySem.W.typeIn K (.ref D) = some (.type "type"))
    (e1 : PySem.W.findIn K (.ref D) "__getattribute__" = some (some (.builtin "BaseException.__getattribute__"))) (e2 : PySem.W.findIn K (.ref D) "__getattr__" = some none) (e3 : PySem.W.hasDictIn K D = true) (e4 : PySem.W.findIn K (.ref D) "__class__" = some (some (.builtin "object.__class__")))
    (e5 : PySem.W.specialIn K (.builtin "object.__class__") "__get__" = some (some (.builtin "getset_descriptor.__get__"))) (e6 : PySem.W.takesIn K (.builtin "object.__class__") = some true) (e7 : PySem.W.mroIn K D (.type "object") = some true)
    (m : PySem.W.exmOne K (.ref D) (.ref B) = some true) (k1 : PySem.W.kitOne K (.ref D) (.ref B) = some true) (k2 : PySem.W.kitOne K (.ref D) (.type "ValueError") = some true) : P1 K mg nm :=
  ⟨D, B, PySem.W.mg_of X G a, PySem.W.mg_of X G b, ⟨PySem.W.mg_of X G a, x, k, bs, t⟩, ⟨e1, e2, bs, e3, e4, e5, e6, e7⟩, m, k1, k2⟩
theorem clsF_of {nm : Str} (h : P1 K mg nm) (k : ∀ n, n ∈ six ++ (oddA ++ oddB) → P2 K mg nm n (decide (n = nm))) : ClsF K (CA mg) nm ∧ Ex K mg nm (CA mg nm) := by
  obtain ⟨D, B, g, gb, ex, ec, m, k1, k2⟩ := h
  have eD := ca_of g
  have eB := ca_of gb
  refine ⟨⟨by rw [eD]; exact ec, by rw [eD, eB]; exact m, fun n hn => ?_, by rw [eD, eB]; exact k1, by rw [eD]; exact k2⟩, by rw [eD]; exact ex⟩
  obtain ⟨D', C, g', gc, kk⟩ := k n hn
  rw [g] at g'
  cases g'
  rw [eD, ca_of gc]
  exact kk
def P0 (K : PySem.W.Frag) (mg : Str → Option Value) (nm : Str) : Prop := ∃ D B, mg nm = some (.ref D) ∧ mg "PairError" = some (.ref B) ∧ ExcC K D ∧ PySem.W.exmOne K (.ref D) (.ref B) = some true ∧ PySem.W.kitOne K (.ref D) (.ref B) = some true ∧ PySem.W.kitOne K (.ref D) (.type "ValueError") = some true
theorem p0_mk {nm : Str} {D B : Addr} (X : K.In h) (G : h.Ns mainGlobals mg) (a : PySem.W.nsIn K mainGlobals nm = some (some (.ref D))) (b : PySem.W.nsIn K mainGlobals "PairError" = some (some (.ref B)))
    (bs : PySem.W.subIn K (.ref D) (.type "BaseException") = some true)
    (e1 : PySem.W.findIn K (.ref D) "__getattribute__" = some (some (.builtin "BaseException.__getattribute__"))) (e2 : PySem.W.findIn K (.ref D) "__getattr__" = some none) (e3 : PySem.W.hasDictIn K D = true) (e4 : PySem.W.findIn K (.ref D) "__class__" = some (some (.builtin "object.__class__")))
    (e5 : PySem.W.specialIn K (.builtin "object.__class__") "__get__" = some (some (.builtin "getset_descriptor.__get__"))) (e6 : PySem.W.takesIn K (.builtin "object.__class__") = some true) (e7 : PySem.W.mroIn K D (.type "object") = some true)
    (m : PySem.W.exmOne K (.ref D) (.ref B) = some true) (k1 : PySem.W.kitOne K (.ref D) (.ref B) = some true) (k2 : PySem.W.kitOne K (.ref D) (.type "ValueError") = some true) : P0 K mg nm :=
  ⟨D, B, PySem.W.mg_of X G a, PySem.W.mg_of X G b, ⟨e1, e2, bs, e3, e4, e5, e6, e7⟩, m, k1, k2⟩
theorem clsF0_of {nm : Str} (h : P0 K mg nm) (k : ∀ n, n ∈ six ++ (oddA ++ oddB) → P2 K mg nm n (decide (n = nm))) : ClsF K (CA mg) nm := by
  obtain ⟨D, B, g, gb, ec, m, k1, k2⟩ := h
  have eD := ca_of g
  have eB := ca_of gb
  refine ⟨by rw [eD]; exact ec, by rw [eD, eB]; exact m, fun n hn => ?_, by rw [eD, eB]; exact k1, by rw [eD]; exact k2⟩
  obtain ⟨D', C, g', gc, kk⟩ := k n hn
  rw [g] at g'
  cases g'
  rw [eD, ca_of gc]
  exact kk
theorem cmg_of {nm : Str} (h : P1 K mg nm) (k : ∀ n, n ∈ six ++ (oddA ++ oddB) → P2 K mg nm n (decide (n = nm))) : Cmg mg (CA mg) := by
  refine ⟨fun n hn => ?_⟩
  have hn : n ∈ (six ++ (oddA ++ oddB)) ∨ n = "PairError" := by
    rcases List.mem_append.mp hn with z | z
    · exact .inl (List.mem_append.mpr (.inl z))
    · rcases List.mem_append.mp z with z | z
      · exact .inl (List.mem_append.mpr (.inr (List.mem_append.mpr (.inl z))))
      · rcases List.mem_append.mp z with z | z
        · exact .inl (List.mem_append.mpr (.inr (List.mem_append.mpr (.inr z))))
        · exact .inr (List.mem_singleton.mp z)
  rcases hn with z | z
  · obtain ⟨D, C, _, gc, _⟩ := k n z
    rw [ca_of gc]
    exact gc
  · obtain ⟨D, B, _, gb, _⟩ := h
    rw [z, ca_of gb]
    exact gb
end
/-- all that the top has written -/
structure Top (K : PySem.W.Frag) (mg : Str → Option Value) : Prop where
  T : Tx mg
  p_InvalidSequence : P1 K mg "InvalidSequence"
  k_InvalidSequence_InvalidSequence : P2 K mg "InvalidSequence" "InvalidSequence" true
  k_InvalidSequence_InvalidState : P2 K mg "InvalidSequence" "InvalidState" false
  k_InvalidSequence_InvalidPosition : P2 K mg "InvalidSequence" "InvalidPosition" false
  k_InvalidSequence_InvalidNumber : P2 K mg "InvalidSequence" "InvalidNumber" false
  k_InvalidSequence_InvalidItems : P2 K mg "InvalidSequence" "InvalidItems" false
  k_InvalidSequence_TooLong : P2 K mg "InvalidSequence" "TooLong" false
  k_InvalidSequence_Contradiction : P2 K mg "InvalidSequence" "Contradiction" false
  k_InvalidSequence_Impossible : P2 K mg "InvalidSequence" "Impossible" false
  k_InvalidSequence_InvalidCommand : P2 K mg "InvalidSequence" "InvalidCommand" false
  k_InvalidSequence_InvalidCounts : P2 K mg "InvalidSequence" "InvalidCounts" false
  k_InvalidSequence_InvalidEffects : P2 K mg "InvalidSequence" "InvalidEffects" false
  k_InvalidSequence_InvalidKind : P2 K mg "InvalidSequence" "InvalidKind" false
  k_InvalidSequence_InvalidKinds : P2 K mg "InvalidSequence" "InvalidKinds" false
  k_InvalidSequence_InvalidRecord : P2 K mg "InvalidSequence" "InvalidRecord" false
  k_InvalidSequence_InvalidText : P2 K mg "InvalidSequence" "InvalidText" false
  k_InvalidSequence_NothingToUndo : P2 K mg "InvalidSequence" "NothingToUndo" false
  k_InvalidSequence_SameEffect : P2 K mg "InvalidSequence" "SameEffect" false
  k_InvalidSequence_TooMany : P2 K mg "InvalidSequence" "TooMany" false
  p_InvalidState : P1 K mg "InvalidState"
  k_InvalidState_InvalidSequence : P2 K mg "InvalidState" "InvalidSequence" false
  k_InvalidState_InvalidState : P2 K mg "InvalidState" "InvalidState" true
  k_InvalidState_InvalidPosition : P2 K mg "InvalidState" "InvalidPosition" false
  k_InvalidState_InvalidNumber : P2 K mg "InvalidState" "InvalidNumber" false
  k_InvalidState_InvalidItems : P2 K mg "InvalidState" "InvalidItems" false
  k_InvalidState_TooLong : P2 K mg "InvalidState" "TooLong" false
  k_InvalidState_Contradiction : P2 K mg "InvalidState" "Contradiction" false
  k_InvalidState_Impossible : P2 K mg "InvalidState" "Impossible" false
  k_InvalidState_InvalidCommand : P2 K mg "InvalidState" "InvalidCommand" false
  k_InvalidState_InvalidCounts : P2 K mg "InvalidState" "InvalidCounts" false
  k_InvalidState_InvalidEffects : P2 K mg "InvalidState" "InvalidEffects" false
  k_InvalidState_InvalidKind : P2 K mg "InvalidState" "InvalidKind" false
  k_InvalidState_InvalidKinds : P2 K mg "InvalidState" "InvalidKinds" false
  k_InvalidState_InvalidRecord : P2 K mg "InvalidState" "InvalidRecord" false
  k_InvalidState_InvalidText : P2 K mg "InvalidState" "InvalidText" false
  k_InvalidState_NothingToUndo : P2 K mg "InvalidState" "NothingToUndo" false
  k_InvalidState_SameEffect : P2 K mg "InvalidState" "SameEffect" false
  k_InvalidState_TooMany : P2 K mg "InvalidState" "TooMany" false
  p_InvalidNumber : P1 K mg "InvalidNumber"
  k_InvalidNumber_InvalidSequence : P2 K mg "InvalidNumber" "InvalidSequence" false
  k_InvalidNumber_InvalidState : P2 K mg "InvalidNumber" "InvalidState" false
  k_InvalidNumber_InvalidPosition : P2 K mg "InvalidNumber" "InvalidPosition" false
  k_InvalidNumber_InvalidNumber : P2 K mg "InvalidNumber" "InvalidNumber" true
  k_InvalidNumber_InvalidItems : P2 K mg "InvalidNumber" "InvalidItems" false
  k_InvalidNumber_TooLong : P2 K mg "InvalidNumber" "TooLong" false
  k_InvalidNumber_Contradiction : P2 K mg "InvalidNumber" "Contradiction" false
  k_InvalidNumber_Impossible : P2 K mg "InvalidNumber" "Impossible" false
  k_InvalidNumber_InvalidCommand : P2 K mg "InvalidNumber" "InvalidCommand" false
  k_InvalidNumber_InvalidCounts : P2 K mg "InvalidNumber" "InvalidCounts" false
  k_InvalidNumber_InvalidEffects : P2 K mg "InvalidNumber" "InvalidEffects" false
  k_InvalidNumber_InvalidKind : P2 K mg "InvalidNumber" "InvalidKind" false
  k_InvalidNumber_InvalidKinds : P2 K mg "InvalidNumber" "InvalidKinds" false
  k_InvalidNumber_InvalidRecord : P2 K mg "InvalidNumber" "InvalidRecord" false
  k_InvalidNumber_InvalidText : P2 K mg "InvalidNumber" "InvalidText" false
  k_InvalidNumber_NothingToUndo : P2 K mg "InvalidNumber" "NothingToUndo" false
  k_InvalidNumber_SameEffect : P2 K mg "InvalidNumber" "SameEffect" false
  k_InvalidNumber_TooMany : P2 K mg "InvalidNumber" "TooMany" false
  p_TooLong : P1 K mg "TooLong"
  k_TooLong_InvalidSequence : P2 K mg "TooLong" "InvalidSequence" false
  k_TooLong_InvalidState : P2 K mg "TooLong" "InvalidState" false
  k_TooLong_InvalidPosition : P2 K mg "TooLong" "InvalidPosition" false
  k_TooLong_InvalidNumber : P2 K mg "TooLong" "InvalidNumber" false
  k_TooLong_InvalidItems : P2 K mg "TooLong" "InvalidItems" false
  k_TooLong_TooLong : P2 K mg "TooLong" "TooLong" true
  k_TooLong_Contradiction : P2 K mg "TooLong" "Contradiction" false
  k_TooLong_Impossible : P2 K mg "TooLong" "Impossible" false
  k_TooLong_InvalidCommand : P2 K mg "TooLong" "InvalidCommand" false
  k_TooLong_InvalidCounts : P2 K mg "TooLong" "InvalidCounts" false
  k_TooLong_InvalidEffects : P2 K mg "TooLong" "InvalidEffects" false
  k_TooLong_InvalidKind : P2 K mg "TooLong" "InvalidKind" false
  k_TooLong_InvalidKinds : P2 K mg "TooLong" "InvalidKinds" false
  k_TooLong_InvalidRecord : P2 K mg "TooLong" "InvalidRecord" false
  k_TooLong_InvalidText : P2 K mg "TooLong" "InvalidText" false
  k_TooLong_NothingToUndo : P2 K mg "TooLong" "NothingToUndo" false
  k_TooLong_SameEffect : P2 K mg "TooLong" "SameEffect" false
  k_TooLong_TooMany : P2 K mg "TooLong" "TooMany" false
  d_is_whole : Df K mg "is_whole" s_is_whole
  d_is_within : Df K mg "is_within" s_is_within
  d_is_listed : Df K mg "is_listed" s_is_listed
  d_is_couple : Df K mg "is_couple" s_is_couple
  d_is_kind : Df K mg "is_kind" s_is_kind
  d_is_run : Df K mg "is_run" s_is_run
  d_is_sequence : Df K mg "is_sequence" s_is_sequence
  d_is_state : Df K mg "is_state" s_is_state
  d_checked_runs : Df K mg "checked_runs" s_checked_runs
  d_checked_short_runs : Df K mg "checked_short_runs" s_checked_short_runs
  d_checked_state : Df K mg "checked_state" s_checked_state
  d_length_of : Df K mg "length_of" s_length_of
  d_counts_of : Df K mg "counts_of" s_counts_of
  d_waiting_number : Df K mg "waiting_number" s_waiting_number
  d_state_with : Df K mg "state_with" s_state_with
  d_state_after_run : Df K mg "state_after_run" s_state_after_run
  d_state_after_runs : Df K mg "state_after_runs" s_state_after_runs
  d_growth_in : Df K mg "growth_in" s_growth_in
  d_fall_of : Df K mg "fall_of" s_fall_of
  d_falling_rounds : Df K mg "falling_rounds" s_falling_rounds
  d_fallen : Df K mg "fallen" s_fallen
  d_grows_for_good : Df K mg "grows_for_good" s_grows_for_good
  d_course_of : DfD K mg "course_of" s_course_of [.int 1000000000000000000000000000000]
  d_continued : Df K mg "continued" s_continued
  d_adds_growth : Df K mg "adds_growth" s_adds_growth
  d_after_rounds : DfD K mg "after_rounds" s_after_rounds [.non]
  d_growth_of : Df K mg "growth_of" s_growth_of
  d_return_of : DfD K mg "return_of" s_return_of [.non]
  d_growing_from : DfD K mg "growing_from" s_growing_from [.non]
  d_law_reel : Df K mg "_law_reel" s_law_reel
  d_law_draw : Df K mg "_law_draw" s_law_draw
  d_law_kind_of : Df K mg "_law_kind_of" s_law_kind_of
  d_law_bad : Df K mg "_law_bad" s_law_bad
  d_law_error : Df K mg "_law_error" s_law_error
theorem Top.law {P : Program} {w : World} {K : PySem.W.Frag} {mg : Str → Option Value} (Y : Top K mg) {f : Addr} {fd : FuncData} (F : Fun K "law" "law" s_law f fd) (base : Heap) : FnC P w K mg base f fd ["script"] (sp_law K) := by
  have T := Y.T
  have q_InvalidSequence : ∀ n, n ∈ six ++ (oddA ++ oddB) → P2 K mg "InvalidSequence" n (decide (n = "InvalidSequence")) := by
    intro n hn
    simp only [six, oddA, oddB, List.cons_append, List.nil_append, List.mem_cons, List.not_mem_nil, or_false] at hn
    rcases hn with rfl | rfl | rfl | rfl | rfl | rfl | rfl | rfl | rfl | rfl | rfl | rfl | rfl | rfl | rfl | rfl | rfl | rfl
    · exact Y.k_InvalidSequence_InvalidSequence
    · exact Y.k_InvalidSequence_InvalidState
    · exact Y.k_InvalidSequence_InvalidPosition
    · exact Y.k_InvalidSequence_InvalidNumber
    · exact Y.k_InvalidSequence_InvalidItems
    · exact Y.k_InvalidSequence_TooLong
    · exact Y.k_InvalidSequence_Contradiction
    · exact Y.k_InvalidSequence_Impossible
    · exact Y.k_InvalidSequence_InvalidCommand
    · exact Y.k_InvalidSequence_InvalidCounts
    · exact Y.k_InvalidSequence_InvalidEffects
    · exact Y.k_InvalidSequence_InvalidKind
    · exact Y.k_InvalidSequence_InvalidKinds
    · exact Y.k_InvalidSequence_InvalidRecord
    · exact Y.k_InvalidSequence_InvalidText
    · exact Y.k_InvalidSequence_NothingToUndo
    · exact Y.k_InvalidSequence_SameEffect
    · exact Y.k_InvalidSequence_TooMany
  obtain ⟨F_InvalidSequence, X_InvalidSequence⟩ := clsF_of Y.p_InvalidSequence q_InvalidSequence
  have q_InvalidState : ∀ n, n ∈ six ++ (oddA ++ oddB) → P2 K mg "InvalidState" n (decide (n = "InvalidState")) := by
    intro n hn
    simp only [six, oddA, oddB, List.cons_append, List.nil_append, List.mem_cons, List.not_mem_nil, or_false] at hn
    rcases hn with rfl | rfl | rfl | rfl | rfl | rfl | rfl | rfl | rfl | rfl | rfl | rfl | rfl | rfl | rfl | rfl | rfl | rfl
    · exact Y.k_InvalidState_InvalidSequence
    · exact Y.k_InvalidState_InvalidState
    · exact Y.k_InvalidState_InvalidPosition
    · exact Y.k_InvalidState_InvalidNumber
    · exact Y.k_InvalidState_InvalidItems
    · exact Y.k_InvalidState_TooLong
    · exact Y.k_InvalidState_Contradiction
    · exact Y.k_InvalidState_Impossible
    · exact Y.k_InvalidState_InvalidCommand
    · exact Y.k_InvalidState_InvalidCounts
    · exact Y.k_InvalidState_InvalidEffects
    · exact Y.k_InvalidState_InvalidKind
    · exact Y.k_InvalidState_InvalidKinds
    · exact Y.k_InvalidState_InvalidRecord
    · exact Y.k_InvalidState_InvalidText
    · exact Y.k_InvalidState_NothingToUndo
    · exact Y.k_InvalidState_SameEffect
    · exact Y.k_InvalidState_TooMany
  obtain ⟨F_InvalidState, X_InvalidState⟩ := clsF_of Y.p_InvalidState q_InvalidState
  have q_InvalidNumber : ∀ n, n ∈ six ++ (oddA ++ oddB) → P2 K mg "InvalidNumber" n (decide (n = "InvalidNumber")) := by
    intro n hn
    simp only [six, oddA, oddB, List.cons_append, List.nil_append, List.mem_cons, List.not_mem_nil, or_false] at hn
    rcases hn with rfl | rfl | rfl | rfl | rfl | rfl | rfl | rfl | rfl | rfl | rfl | rfl | rfl | rfl | rfl | rfl | rfl | rfl
    · exact Y.k_InvalidNumber_InvalidSequence
    · exact Y.k_InvalidNumber_InvalidState
    · exact Y.k_InvalidNumber_InvalidPosition
    · exact Y.k_InvalidNumber_InvalidNumber
    · exact Y.k_InvalidNumber_InvalidItems
    · exact Y.k_InvalidNumber_TooLong
    · exact Y.k_InvalidNumber_Contradiction
    · exact Y.k_InvalidNumber_Impossible
    · exact Y.k_InvalidNumber_InvalidCommand
    · exact Y.k_InvalidNumber_InvalidCounts
    · exact Y.k_InvalidNumber_InvalidEffects
    · exact Y.k_InvalidNumber_InvalidKind
    · exact Y.k_InvalidNumber_InvalidKinds
    · exact Y.k_InvalidNumber_InvalidRecord
    · exact Y.k_InvalidNumber_InvalidText
    · exact Y.k_InvalidNumber_NothingToUndo
    · exact Y.k_InvalidNumber_SameEffect
    · exact Y.k_InvalidNumber_TooMany
  obtain ⟨F_InvalidNumber, X_InvalidNumber⟩ := clsF_of Y.p_InvalidNumber q_InvalidNumber
  have q_TooLong : ∀ n, n ∈ six ++ (oddA ++ oddB) → P2 K mg "TooLong" n (decide (n = "TooLong")) := by
    intro n hn
    simp only [six, oddA, oddB, List.cons_append, List.nil_append, List.mem_cons, List.not_mem_nil, or_false] at hn
    rcases hn with rfl | rfl | rfl | rfl | rfl | rfl | rfl | rfl | rfl | rfl | rfl | rfl | rfl | rfl | rfl | rfl | rfl | rfl
    · exact Y.k_TooLong_InvalidSequence
    · exact Y.k_TooLong_InvalidState
    · exact Y.k_TooLong_InvalidPosition
    · exact Y.k_TooLong_InvalidNumber
    · exact Y.k_TooLong_InvalidItems
    · exact Y.k_TooLong_TooLong
    · exact Y.k_TooLong_Contradiction
    · exact Y.k_TooLong_Impossible
    · exact Y.k_TooLong_InvalidCommand
    · exact Y.k_TooLong_InvalidCounts
    · exact Y.k_TooLong_InvalidEffects
    · exact Y.k_TooLong_InvalidKind
    · exact Y.k_TooLong_InvalidKinds
    · exact Y.k_TooLong_InvalidRecord
    · exact Y.k_TooLong_InvalidText
    · exact Y.k_TooLong_NothingToUndo
    · exact Y.k_TooLong_SameEffect
    · exact Y.k_TooLong_TooMany
  obtain ⟨F_TooLong, X_TooLong⟩ := clsF_of Y.p_TooLong q_TooLong
  have CM := cmg_of Y.p_InvalidSequence q_InvalidSequence
  have g_is_whole := ok_is_whole (P := P) (w := w) (base := base) Y.d_is_whole T
  have g_is_within := ok_is_within (P := P) (w := w) (base := base) Y.d_is_within g_is_whole
  have g_is_listed := ok_is_listed (P := P) (w := w) (base := base) Y.d_is_listed T
  have g_is_couple := ok_is_couple (P := P) (w := w) (base := base) Y.d_is_couple T
  have g_is_kind := ok_is_kind (P := P) (w := w) (base := base) Y.d_is_kind T
  have g_is_run := ok_is_run (P := P) (w := w) (base := base) Y.d_is_run T g_is_couple g_is_kind g_is_within
  have g_is_state := ok_is_state (P := P) (w := w) (base := base) Y.d_is_state T g_is_couple g_is_kind g_is_whole
  have g_is_sequence := ok_is_sequence (P := P) (w := w) (base := base) Y.d_is_sequence T g_is_listed g_is_run
  have g_checked_state := ok_checked_state (P := P) (w := w) (base := base) Y.d_checked_state T X_InvalidState g_is_state
  have g_checked_runs := ok_checked_runs (P := P) (w := w) (base := base) Y.d_checked_runs T X_InvalidSequence g_is_sequence
  have g_length_of := ok_length_of (P := P) (w := w) (base := base) Y.d_length_of T
  have g_waiting_number := ok_waiting_number (P := P) (w := w) (base := base) Y.d_waiting_number
  have g_state_with := ok_state_with (P := P) (w := w) (base := base) Y.d_state_with
  have g_state_after_run := ok_state_after_run (P := P) (w := w) (base := base) Y.d_state_after_run g_waiting_number g_state_with
  have g_state_after_runs := ok_state_after_runs (P := P) (w := w) (base := base) Y.d_state_after_runs g_state_after_run
  have g_law_draw := ok_law_draw (P := P) (w := w) (base := base) Y.d_law_draw T
  have g_law_reel := ok_law_reel (P := P) (w := w) (base := base) Y.d_law_reel T
  have g_law_kind_of := ok_law_kind_of (P := P) (w := w) (base := base) Y.d_law_kind_of T CM
  have g_law_bad := ok_law_bad (P := P) (w := w) (base := base) Y.d_law_bad T g_law_draw
  have g_counts_of := ok_counts_of (P := P) (w := w) (base := base) Y.d_counts_of T g_checked_runs
  have g_growth_in := ok_growth_in (P := P) (w := w) (base := base) Y.d_growth_in g_length_of g_counts_of
  have g_fall_of := ok_fall_of (P := P) (w := w) (base := base) Y.d_fall_of T g_length_of
  have g_falling_rounds := ok_falling_rounds (P := P) (w := w) (base := base) Y.d_falling_rounds g_length_of g_fall_of
  have g_fallen := ok_fallen (P := P) (w := w) (base := base) Y.d_fallen g_state_with g_fall_of
  have g_grows_for_good := ok_grows_for_good (P := P) (w := w) (base := base) Y.d_grows_for_good g_length_of
  have g_course_of := ok_course_of (P := P) (w := w) (base := base) Y.d_course_of T g_grows_for_good g_state_after_runs
  have g_continued := ok_continued (P := P) (w := w) (base := base) Y.d_continued T
  have g_adds_growth := ok_adds_growth (P := P) (w := w) (base := base) Y.d_adds_growth g_waiting_number
  have g_checked_short_runs := ok_checked_short_runs (P := P) (w := w) (base := base) Y.d_checked_short_runs T X_TooLong g_checked_runs g_length_of
  have g_growth_of := ok_growth_of (P := P) (w := w) (base := base) Y.d_growth_of g_checked_short_runs g_growth_in
  have g_after_rounds := ok_after_rounds (P := P) (w := w) (base := base) Y.d_after_rounds T X_InvalidNumber g_checked_short_runs g_is_within g_checked_state g_growth_in g_falling_rounds g_course_of g_fallen g_continued
  have g_return_of := ok_return_of (P := P) (w := w) (base := base) Y.d_return_of T g_checked_short_runs g_checked_state g_growth_in g_falling_rounds g_course_of g_fallen
  have g_growing_from := ok_growing_from (P := P) (w := w) (base := base) Y.d_growing_from T g_checked_short_runs g_checked_state g_growth_in g_falling_rounds g_course_of g_fallen g_adds_growth
  have g_law_error := ok_law_error (P := P) (w := w) (base := base) Y.d_law_error T CM F_InvalidSequence F_InvalidState F_InvalidNumber F_TooLong g_law_kind_of g_after_rounds.has g_growth_of g_return_of.has g_growing_from.has
  exact fn_law F T g_law_reel g_law_draw g_law_bad g_law_error g_after_rounds g_return_of g_growing_from
theorem all_mk {P : Program} {w : World} {K : PySem.W.Frag} {h : Heap} {mg : Str → Option Value} {fa f : Addr} {od an : Option Addr} {sl : Array (Option Value)} {oc kV dc pm cd ct : Value} (X : K.In h) (G : h.Ns mainGlobals mg) (hfa : mg "law" = some (.ref fa)) (a : PySem.W.nsIn K mainGlobals "law" = some (some (.ref f)))
    (l : K.lookup f = some ⟨oc, od, .func (PySem.W.fnOf "law" "law" (defArgs s_law) (defBody s_law) (defScope s_law) .none kV dc pm an cd ct), sl⟩) (c : PySem.W.codeIn K cd "law" = true) (k : PySem.W.keepIn K (.ref f) = true) (Y : Top K mg) :
    ∃ fd : FuncData, (∀ (s : Shared) (v : Value), BindsTo s fd ⟨[v], []⟩ [("script", v)]) ∧ ∀ base : Heap, K.In base → base.Ns mainGlobals mg → FnC P w K mg base fa fd ["script"] (sp_law K) := by
  have e := hfa.symm.trans (PySem.W.mg_of X G a)
  cases e
  exact ⟨_, fun s v => .of_eq rfl, fun base _ _ => Y.law (fun_mk (st := s_law) l c k) base⟩
end UP
open PySem PySem.W PyProof.Rows
set_option maxHeartbeats 0 in
theorem PySem.Challenge.cw_unlikepairs_k24_round_errors_holds : PySem.Challenge.rw_unlikepairs_k24_round_errors.Holds := by
  w_on; o_law; k_head; (case hw => w_witness2)
  k_fill
  refine UP.walkC (l := PySem.Challenge.rw_unlikepairs_k24_round_errors) (n := 63) (x := "script") (sp := fun w => UP.sp_law _) rfl (by decide) rfl (fun w h Y => PySem.W.kIn_of Y) ?F (fun _ _ a ns hl hS => ⟨a, ns, rfl, hS, hl, fun _ => rfl⟩)
  case F =>
    intro w mg fa h KX G hmg
    refine' UP.all_mk KX G hmg ?a ?l ?c ?k ?Y
    (case a => k_is); (case l => k_is); (case c => k_is); (case k => k_is)
    case Y =>
      constructor
      · constructor
        · refine' PySem.W.mg_none_of KX G ?z; (case z => k_is)
        · refine' PySem.W.mg_none_of KX G ?z; (case z => k_is)
        · refine' PySem.W.mg_none_of KX G ?z; (case z => k_is)
        · refine' PySem.W.mg_none_of KX G ?z; (case z => k_is)
        · refine' PySem.W.mg_none_of KX G ?z; (case z => k_is)
        · refine' PySem.W.mg_none_of KX G ?z; (case z => k_is)
        · refine' PySem.W.mg_none_of KX G ?z; (case z => k_is)
        · refine' PySem.W.mg_none_of KX G ?z; (case z => k_is)
        · refine' PySem.W.mg_none_of KX G ?z; (case z => k_is)
        · refine' PySem.W.mg_none_of KX G ?z; (case z => k_is)
        · refine' PySem.W.mg_none_of KX G ?z; (case z => k_is)
        · refine' PySem.W.mg_none_of KX G ?z; (case z => k_is)
        · refine' PySem.W.mg_none_of KX G ?z; (case z => k_is)
        · refine' PySem.W.mg_none_of KX G ?z; (case z => k_is)
        · refine' PySem.W.mg_none_of KX G ?z; (case z => k_is)
        · refine' PySem.W.mg_none_of KX G ?z; (case z => k_is)
        · refine' PySem.W.mg_none_of KX G ?z; (case z => k_is)
        · refine' PySem.W.mg_none_of KX G ?z; (case z => k_is)
        · refine' PySem.W.mg_none_of KX G ?z; (case z => k_is)
        · refine' PySem.W.mg_none_of KX G ?z; (case z => k_is)
        · refine' PySem.W.mg_none_of KX G ?z; (case z => k_is)
        · refine' PySem.W.mg_none_of KX G ?z; (case z => k_is)
        · refine' UP.cst_mk KX G ?z; (case z => k_is)
        · refine' UP.cst_mk KX G ?z; (case z => k_is)
        · refine' UP.cst_mk KX G ?z; (case z => k_is)
        · refine' UP.cst_mk KX G ?z; (case z => k_is)
        · refine' UP.cst_mk KX G ?z; (case z => k_is)
      · refine' UP.p1_mk KX G ?a ?b ?x ?k ?bs ?t ?e1 ?e2 ?e3 ?e4 ?e5 ?e6 ?e7 ?m ?k1 ?k2; (case a => k_is); (case b => k_is); (case x => first | k_exc | k_is); (case k => k_is); (case bs => k_is); (case t => k_is); (case e1 => k_is); (case e2 => k_is); (case e3 => k_is); (case e4 => k_is); (case e5 => k_is); (case e6 => k_is); (case e7 => k_is); (case m => kts_exm); (case k1 => kit_is); (case k2 => kit_is)
      · refine' UP.p2_mk KX G ?a ?b ?k; (case a => k_is); (case b => k_is); (case k => kit_is)
      · refine' UP.p2_mk KX G ?a ?b ?k; (case a => k_is); (case b => k_is); (case k => kit_is)
      · refine' UP.p2_mk KX G ?a ?b ?k; (case a => k_is); (case b => k_is); (case k => kit_is)
      · refine' UP.p2_mk KX G ?a ?b ?k; (case a => k_is); (case b => k_is); (case k => kit_is)
      · refine' UP.p2_mk KX G ?a ?b ?k; (case a => k_is); (case b => k_is); (case k => kit_is)
      · refine' UP.p2_mk KX G ?a ?b ?k; (case a => k_is); (case b => k_is); (case k => kit_is)
      · refine' UP.p2_mk KX G ?a ?b ?k; (case a => k_is); (case b => k_is); (case k => kit_is)
      · refine' UP.p2_mk KX G ?a ?b ?k; (case a => k_is); (case b => k_is); (case k => kit_is)
      · refine' UP.p2_mk KX G ?a ?b ?k; (case a => k_is); (case b => k_is); (case k => kit_is)
      · refine' UP.p2_mk KX G ?a ?b ?k; (case a => k_is); (case b => k_is); (case k => kit_is)
      · refine' UP.p2_mk KX G ?a ?b ?k; (case a => k_is); (case b => k_is); (case k => kit_is)
      · refine' UP.p2_mk KX G ?a ?b ?k; (case a => k_is); (case b => k_is); (case k => kit_is)
      · refine' UP.p2_mk KX G ?a ?b ?k; (case a => k_is); (case b => k_is); (case k => kit_is)
      · refine' UP.p2_mk KX G ?a ?b ?k; (case a => k_is); (case b => k_is); (case k => kit_is)
      · refine' UP.p2_mk KX G ?a ?b ?k; (case a => k_is); (case b => k_is); (case k => kit_is)
      · refine' UP.p2_mk KX G ?a ?b ?k; (case a => k_is); (case b => k_is); (case k => kit_is)
      · refine' UP.p2_mk KX G ?a ?b ?k; (case a => k_is); (case b => k_is); (case k => kit_is)
      · refine' UP.p2_mk KX G ?a ?b ?k; (case a => k_is); (case b => k_is); (case k => kit_is)
      · refine' UP.p1_mk KX G ?a ?b ?x ?k ?bs ?t ?e1 ?e2 ?e3 ?e4 ?e5 ?e6 ?e7 ?m ?k1 ?k2; (case a => k_is); (case b => k_is); (case x => first | k_exc | k_is); (case k => k_is); (case bs => k_is); (case t => k_is); (case e1 => k_is); (case e2 => k_is); (case e3 => k_is); (case e4 => k_is); (case e5 => k_is); (case e6 => k_is); (case e7 => k_is); (case m => kts_exm); (case k1 => kit_is); (case k2 => kit_is)
      · refine' UP.p2_mk KX G ?a ?b ?k; (case a => k_is); (case b => k_is); (case k => kit_is)
      · refine' UP.p2_mk KX G ?a ?b ?k; (case a => k_is); (case b => k_is); (case k => kit_is)
      · refine' UP.p2_mk KX G ?a ?b ?k; (case a => k_is); (case b => k_is); (case k => kit_is)
      · refine' UP.p2_mk KX G ?a ?b ?k; (case a => k_is); (case b => k_is); (case k => kit_is)
      · refine' UP.p2_mk KX G ?a ?b ?k; (case a => k_is); (case b => k_is); (case k => kit_is)
      · refine' UP.p2_mk KX G ?a ?b ?k; (case a => k_is); (case b => k_is); (case k => kit_is)
      · refine' UP.p2_mk KX G ?a ?b ?k; (case a => k_is); (case b => k_is); (case k => kit_is)
      · refine' UP.p2_mk KX G ?a ?b ?k; (case a => k_is); (case b => k_is); (case k => kit_is)
      · refine' UP.p2_mk KX G ?a ?b ?k; (case a => k_is); (case b => k_is); (case k => kit_is)
      · refine' UP.p2_mk KX G ?a ?b ?k; (case a => k_is); (case b => k_is); (case k => kit_is)
      · refine' UP.p2_mk KX G ?a ?b ?k; (case a => k_is); (case b => k_is); (case k => kit_is)
      · refine' UP.p2_mk KX G ?a ?b ?k; (case a => k_is); (case b => k_is); (case k => kit_is)
      · refine' UP.p2_mk KX G ?a ?b ?k; (case a => k_is); (case b => k_is); (case k => kit_is)
      · refine' UP.p2_mk KX G ?a ?b ?k; (case a => k_is); (case b => k_is); (case k => kit_is)
      · refine' UP.p2_mk KX G ?a ?b ?k; (case a => k_is); (case b => k_is); (case k => kit_is)
      · refine' UP.p2_mk KX G ?a ?b ?k; (case a => k_is); (case b => k_is); (case k => kit_is)
      · refine' UP.p2_mk KX G ?a ?b ?k; (case a => k_is); (case b => k_is); (case k => kit_is)
      · refine' UP.p2_mk KX G ?a ?b ?k; (case a => k_is); (case b => k_is); (case k => kit_is)
      · refine' UP.p1_mk KX G ?a ?b ?x ?k ?bs ?t ?e1 ?e2 ?e3 ?e4 ?e5 ?e6 ?e7 ?m ?k1 ?k2; (case a => k_is); (case b => k_is); (case x => first | k_exc | k_is); (case k => k_is); (case bs => k_is); (case t => k_is); (case e1 => k_is); (case e2 => k_is); (case e3 => k_is); (case e4 => k_is); (case e5 => k_is); (case e6 => k_is); (case e7 => k_is); (case m => kts_exm); (case k1 => kit_is); (case k2 => kit_is)
      · refine' UP.p2_mk KX G ?a ?b ?k; (case a => k_is); (case b => k_is); (case k => kit_is)
      · refine' UP.p2_mk KX G ?a ?b ?k; (case a => k_is); (case b => k_is); (case k => kit_is)
      · refine' UP.p2_mk KX G ?a ?b ?k; (case a => k_is); (case b => k_is); (case k => kit_is)
      · refine' UP.p2_mk KX G ?a ?b ?k; (case a => k_is); (case b => k_is); (case k => kit_is)
      · refine' UP.p2_mk KX G ?a ?b ?k; (case a => k_is); (case b => k_is); (case k => kit_is)
      · refine' UP.p2_mk KX G ?a ?b ?k; (case a => k_is); (case b => k_is); (case k => kit_is)
      · refine' UP.p2_mk KX G ?a ?b ?k; (case a => k_is); (case b => k_is); (case k => kit_is)
      · refine' UP.p2_mk KX G ?a ?b ?k; (case a => k_is); (case b => k_is); (case k => kit_is)
      · refine' UP.p2_mk KX G ?a ?b ?k; (case a => k_is); (case b => k_is); (case k => kit_is)
      · refine' UP.p2_mk KX G ?a ?b ?k; (case a => k_is); (case b => k_is); (case k => kit_is)
      · refine' UP.p2_mk KX G ?a ?b ?k; (case a => k_is); (case b => k_is); (case k => kit_is)
      · refine' UP.p2_mk KX G ?a ?b ?k; (case a => k_is); (case b => k_is); (case k => kit_is)
      · refine' UP.p2_mk KX G ?a ?b ?k; (case a => k_is); (case b => k_is); (case k => kit_is)
      · refine' UP.p2_mk KX G ?a ?b ?k; (case a => k_is); (case b => k_is); (case k => kit_is)
      · refine' UP.p2_mk KX G ?a ?b ?k; (case a => k_is); (case b => k_is); (case k => kit_is)
      · refine' UP.p2_mk KX G ?a ?b ?k; (case a => k_is); (case b => k_is); (case k => kit_is)
      · refine' UP.p2_mk KX G ?a ?b ?k; (case a => k_is); (case b => k_is); (case k => kit_is)
      · refine' UP.p2_mk KX G ?a ?b ?k; (case a => k_is); (case b => k_is); (case k => kit_is)
      · refine' UP.p1_mk KX G ?a ?b ?x ?k ?bs ?t ?e1 ?e2 ?e3 ?e4 ?e5 ?e6 ?e7 ?m ?k1 ?k2; (case a => k_is); (case b => k_is); (case x => first | k_exc | k_is); (case k => k_is); (case bs => k_is); (case t => k_is); (case e1 => k_is); (case e2 => k_is); (case e3 => k_is); (case e4 => k_is); (case e5 => k_is); (case e6 => k_is); (case e7 => k_is); (case m => kts_exm); (case k1 => kit_is); (case k2 => kit_is)
      · refine' UP.p2_mk KX G ?a ?b ?k; (case a => k_is); (case b => k_is); (case k => kit_is)
      · refine' UP.p2_mk KX G ?a ?b ?k; (case a => k_is); (case b => k_is); (case k => kit_is)
      · refine' UP.p2_mk KX G ?a ?b ?k; (case a => k_is); (case b => k_is); (case k => kit_is)
      · refine' UP.p2_mk KX G ?a ?b ?k; (case a => k_is); (case b => k_is); (case k => kit_is)
      · refine' UP.p2_mk KX G ?a ?b ?k; (case a => k_is); (case b => k_is); (case k => kit_is)
      · refine' UP.p2_mk KX G ?a ?b ?k; (case a => k_is); (case b => k_is); (case k => kit_is)
      · refine' UP.p2_mk KX G ?a ?b ?k; (case a => k_is); (case b => k_is); (case k => kit_is)
      · refine' UP.p2_mk KX G ?a ?b ?k; (case a => k_is); (case b => k_is); (case k => kit_is)
      · refine' UP.p2_mk KX G ?a ?b ?k; (case a => k_is); (case b => k_is); (case k => kit_is)
      · refine' UP.p2_mk KX G ?a ?b ?k; (case a => k_is); (case b => k_is); (case k => kit_is)
      · refine' UP.p2_mk KX G ?a ?b ?k; (case a => k_is); (case b => k_is); (case k => kit_is)
      · refine' UP.p2_mk KX G ?a ?b ?k; (case a => k_is); (case b => k_is); (case k => kit_is)
      · refine' UP.p2_mk KX G ?a ?b ?k; (case a => k_is); (case b => k_is); (case k => kit_is)
      · refine' UP.p2_mk KX G ?a ?b ?k; (case a => k_is); (case b => k_is); (case k => kit_is)
      · refine' UP.p2_mk KX G ?a ?b ?k; (case a => k_is); (case b => k_is); (case k => kit_is)
      · refine' UP.p2_mk KX G ?a ?b ?k; (case a => k_is); (case b => k_is); (case k => kit_is)
      · refine' UP.p2_mk KX G ?a ?b ?k; (case a => k_is); (case b => k_is); (case k => kit_is)
      · refine' UP.p2_mk KX G ?a ?b ?k; (case a => k_is); (case b => k_is); (case k => kit_is)
      · refine' UP.df_mk KX G ?a ?l ?c ?k; (case a => k_is); (case l => k_is); (case c => k_is); (case k => k_is)
      · refine' UP.df_mk KX G ?a ?l ?c ?k; (case a => k_is); (case l => k_is); (case c => k_is); (case k => k_is)
      · refine' UP.df_mk KX G ?a ?l ?c ?k; (case a => k_is); (case l => k_is); (case c => k_is); (case k => k_is)
      · refine' UP.df_mk KX G ?a ?l ?c ?k; (case a => k_is); (case l => k_is); (case c => k_is); (case k => k_is)
      · refine' UP.df_mk KX G ?a ?l ?c ?k; (case a => k_is); (case l => k_is); (case c => k_is); (case k => k_is)
      · refine' UP.df_mk KX G ?a ?l ?c ?k; (case a => k_is); (case l => k_is); (case c => k_is); (case k => k_is)
      · refine' UP.df_mk KX G ?a ?l ?c ?k; (case a => k_is); (case l => k_is); (case c => k_is); (case k => k_is)
      · refine' UP.df_mk KX G ?a ?l ?c ?k; (case a => k_is); (case l => k_is); (case c => k_is); (case k => k_is)
      · refine' UP.df_mk KX G ?a ?l ?c ?k; (case a => k_is); (case l => k_is); (case c => k_is); (case k => k_is)
      · refine' UP.df_mk KX G ?a ?l ?c ?k; (case a => k_is); (case l => k_is); (case c => k_is); (case k => k_is)
      · refine' UP.df_mk KX G ?a ?l ?c ?k; (case a => k_is); (case l => k_is); (case c => k_is); (case k => k_is)
      · refine' UP.df_mk KX G ?a ?l ?c ?k; (case a => k_is); (case l => k_is); (case c => k_is); (case k => k_is)
      · refine' UP.df_mk KX G ?a ?l ?c ?k; (case a => k_is); (case l => k_is); (case c => k_is); (case k => k_is)
      · refine' UP.df_mk KX G ?a ?l ?c ?k; (case a => k_is); (case l => k_is); (case c => k_is); (case k => k_is)
      · refine' UP.df_mk KX G ?a ?l ?c ?k; (case a => k_is); (case l => k_is); (case c => k_is); (case k => k_is)
      · refine' UP.df_mk KX G ?a ?l ?c ?k; (case a => k_is); (case l => k_is); (case c => k_is); (case k => k_is)
      · refine' UP.df_mk KX G ?a ?l ?c ?k; (case a => k_is); (case l => k_is); (case c => k_is); (case k => k_is)
      · refine' UP.df_mk KX G ?a ?l ?c ?k; (case a => k_is); (case l => k_is); (case c => k_is); (case k => k_is)
      · refine' UP.df_mk KX G ?a ?l ?c ?k; (case a => k_is); (case l => k_is); (case c => k_is); (case k => k_is)
      · refine' UP.df_mk KX G ?a ?l ?c ?k; (case a => k_is); (case l => k_is); (case c => k_is); (case k => k_is)
      · refine' UP.df_mk KX G ?a ?l ?c ?k; (case a => k_is); (case l => k_is); (case c => k_is); (case k => k_is)
      · refine' UP.df_mk KX G ?a ?l ?c ?k; (case a => k_is); (case l => k_is); (case c => k_is); (case k => k_is)
      · refine' UP.dfdi_mk KX G ?a ?l ?t ?c ?k; (case a => k_is); (case l => k_is); (case t => k_is); (case c => k_is); (case k => k_is)
      · refine' UP.df_mk KX G ?a ?l ?c ?k; (case a => k_is); (case l => k_is); (case c => k_is); (case k => k_is)
      · refine' UP.df_mk KX G ?a ?l ?c ?k; (case a => k_is); (case l => k_is); (case c => k_is); (case k => k_is)
      · refine' UP.dfd_mk KX G ?a ?l ?t ?c ?k; (case a => k_is); (case l => k_is); (case t => k_is); (case c => k_is); (case k => k_is)
      · refine' UP.df_mk KX G ?a ?l ?c ?k; (case a => k_is); (case l => k_is); (case c => k_is); (case k => k_is)
      · refine' UP.dfd_mk KX G ?a ?l ?t ?c ?k; (case a => k_is); (case l => k_is); (case t => k_is); (case c => k_is); (case k => k_is)
      · refine' UP.dfd_mk KX G ?a ?l ?t ?c ?k; (case a => k_is); (case l => k_is); (case t => k_is); (case c => k_is); (case k => k_is)
      · refine' UP.df_mk KX G ?a ?l ?c ?k; (case a => k_is); (case l => k_is); (case c => k_is); (case k => k_is)
      · refine' UP.df_mk KX G ?a ?l ?c ?k; (case a => k_is); (case l => k_is); (case c => k_is); (case k => k_is)
      · refine' UP.df_mk KX G ?a ?l ?c ?k; (case a => k_is); (case l => k_is); (case c => k_is); (case k => k_is)
      · refine' UP.df_mk KX G ?a ?l ?c ?k; (case a => k_is); (case l => k_is); (case c => k_is); (case k => k_is)
      · refine' UP.df_mk KX G ?a ?l ?c ?k; (case a => k_is); (case l => k_is); (case c => k_is); (case k => k_is)
