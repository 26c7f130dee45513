import PyProof.Rows.All
import Wide.All
import OpenK.AllK
import Wide.FinOn
import HandS.ForMost
import HandS.Wide
import HandS.IsInst
import HandS.Defaults
import HandS.Codes
import HandS.Style
import PyProof.ReprRoads
import PyProof.ReprLen
import HandS.Zip
import HandS.NoneIn
import HandS.TupAny
import HandS.ForExc
import HandS.ExcIs
import HandS.ExcValue
import HandS.ExcInit
import KE.KExcIs
import PySem.Challenge.RW_unlikepairs_k35_remains_errors
set_option Elab.async false
set_option linter.all false
set_option maxRecDepth 100000
set_option maxHeartbeats 4000000
namespace UP
open PySem PySem.Spec PyProof.Rows L2

/-! ### a def that keeps a promise, by its name -/
section
variable (P : Program) (w : World) (K : PySem.W.Frag) (mg : Str → Option Value) (base : Heap)
def Has (k : Nat) (x : Str) (ps : List Str) (sp : Sp) : Prop :=
  ∃ f fd, mg x = some (.ref f) ∧ PySem.W.keepIn K (.ref f) = true ∧ Binds K fd ps [] ∧ FnOk P w K mg base CX0 k f fd ps sp
def Df (x : Str) (st : Stmt) : Prop := ∃ f fd, mg x = some (.ref f) ∧ Fun K x x st f fd
end
theorem Df.of {K : PySem.W.Frag} {mg : Str → Option Value} {x : Str} {st : Stmt} {f : Addr} {fd : FuncData} (g : mg x = some (.ref f)) (F : Fun K x x st f fd) : Df K mg x st := ⟨f, fd, g, F⟩
section
variable {P : Program} {w : World} {K : PySem.W.Frag} {mg : Str → Option Value} {base : Heap}
theorem has_of {x : Str} {st : Stmt} {ps N : List Str} {k : Nat} {sp : Sp} (D : Df K mg x st) (S : FnScope N ps (defScope st))
    (hb : ∀ (kV doc pm : Value) (an : Option Addr) (cdv ct : Value) (us : List Value), us.length = ps.length → bindArgs (PySem.W.fnOf x x (defArgs st) (defBody st) (defScope st) .none kV doc pm an cdv ct) ⟨us, []⟩ = pure (ps.zip us))
    (len : ∀ vs H Q E, sp vs H Q E → vs.length = ps.length)
    (body : ∀ (f : Addr) (cdv : Value) (A : Around) (outer : List Env) (s : Shared) (H : Hp) (vs : List V) (Q : VK) (E : XK), Room k (A.deeper (envOfC x (defScope st) s.heap.objs.size f cdv)) → sp vs H Q E →
      ∃ t, PSs (cxOf CX0 P w K mg base N x (defScope st) f cdv A outer s H E).nox (defBody st) t ∧ t { nx := fun _ H' => Q .non H', rt := Q } (start N vs) H) :
    Has P w K mg base (k + 1) x ps sp := by
  obtain ⟨f, fd, g, F⟩ := D
  exact ⟨f, fd, g, F.kp, F.binds hb, F.ok S len fun cdv A outer s H vs Q E hr h => body f cdv A outer s H vs Q E hr h⟩
theorem Has.weak {x : Str} {ps : List Str} {k : Nat} {sp sp' : Sp} (h : Has P w K mg base k x ps sp) (e : sp = sp') : Has P w K mg base k x ps sp' := e ▸ h
end
section
variable {X : Cx}
theorem pe_callH {k : Nat} {x : Str} {ps : List Str} {sp : Sp} {p pos : Pos} {e : Expr} {es : List Expr} {t : TA} (G : Has X.prog X.w X.K X.mg X.base k x ps sp) (hr : Room k X.A) (hg : Gl X x) (ha : PA X (e :: es) t)
    (hdb : (x == ("__debug__" : Str)) = false := by decide) (he : starEach (e :: es) X.env = (false, eval e X.env) :: starEach es X.env := by rfl) (hpl : (backTo pos (starEach es X.env)).any (·.1) = false := by rfl) :
    PE X (.Call (.Name x p) (e :: es) [] pos) (tCall sp [] E0 t) := by
  obtain ⟨f, fd, g, kp, b, F⟩ := G
  exact pe_call F hr hg g kp b .nil pass0 ha hdb he hpl
theorem pe_glI {x : Str} {i : Int} {pos : Pos} (h : ∃ t, X.mg x = some (.int i t)) (hg : Gl X x) (hd : (x == ("__debug__" : Str)) = false := by decide) : PE X (.Name x pos) (tC (.int i)) := by
  obtain ⟨t, h⟩ := h
  exact pe_glob hg h ⟨t, rfl⟩ hd
end

/-! ### heaps -/
theorem same_upd {H : Hp} {p : Addr} {o : HO} (h : H p = none) : Same H (upd H p o) := fun b x e => by
  rw [upd_ne (ne_of_none e h)]
  exact e
/-- all but the object at sp is as it was -/
def But (sp : Addr) (H H' : Hp) : Prop := ∀ b o, b ≠ sp → H b = some o → H' b = some o
theorem Same.but {sp : Addr} {H H' : Hp} (h : Same H H') : But sp H H' := fun b o _ e => h b o e
theorem But.trans {sp : Addr} {H H1 H2 : Hp} (a : But sp H H1) (b : But sp H1 H2) : But sp H H2 := fun c o n e => b c o n (a c o n e)
theorem But.refl {sp : Addr} {H : Hp} : But sp H H := fun _ _ _ e => e
theorem but_upd {sp : Addr} {H : Hp} {o : HO} : But sp H (upd H sp o) := fun b x n e => by
  rw [upd_ne n]
  exact e
theorem small {n : Nat} (h : n ≤ 1000000) : n < sizeLine := Nat.lt_of_le_of_lt h (by decide)
theorem smallE {n : Nat} (h : n ≤ 1000000) : n ≤ sizeLine := Nat.le_of_lt (small h)

/-! ### runs and states -/
abbrev Run := Str × Int
def RunV (H : Hp) (v : V) (r : Run) : Prop := ∃ t, v = .ref t ∧ H t = some (.tup [.str r.1, .int r.2])
def Runs (H : Hp) (a : Addr) (rs : List Run) : Prop := ∃ xs, H a = some (.lst xs) ∧ Paired (RunV H) xs rs
def StV (H : Hp) (v : V) : Option Run → Prop
  | none => v = .non
  | some r => RunV H v r
theorem RunV.same {H H' : Hp} {v : V} {r : Run} (s : Same H H') (h : RunV H v r) : RunV H' v r := by
  obtain ⟨t, e, h⟩ := h
  exact ⟨t, e, s _ _ h⟩
theorem Paired.len {α β : Type} {F : α → β → Prop} : ∀ {l₁ : List α} {l₂ : List β}, Paired F l₁ l₂ → l₁.length = l₂.length
  | _, _, .nil => rfl
  | _, _, .cons _ t => congrArg Nat.succ (Paired.len t)
theorem Paired.at {α β : Type} {F : α → β → Prop} : ∀ {l₁ : List α} {l₂ : List β} {i : Nat} {x : α}, Paired F l₁ l₂ → l₁[i]? = some x → ∃ y, l₂[i]? = some y ∧ F x y
  | _, _, _, _, .nil, h => by simp at h
  | _, _, 0, _, .cons h _, e => by
    simp only [List.getElem?_cons_zero, Option.some.injEq] at e
    subst e
    exact ⟨_, by simp, h⟩
  | _, _, i + 1, _, .cons _ t, e => by
    simp only [List.getElem?_cons_succ] at e ⊢
    exact Paired.at t e
theorem Paired.at' {α β : Type} {F : α → β → Prop} : ∀ {l₁ : List α} {l₂ : List β} {i : Nat} {y : β}, Paired F l₁ l₂ → l₂[i]? = some y → ∃ x, l₁[i]? = some x ∧ F x y
  | _, _, _, _, .nil, h => by simp at h
  | _, _, 0, _, .cons h _, e => by
    simp only [List.getElem?_cons_zero, Option.some.injEq] at e
    subst e
    exact ⟨_, by simp, h⟩
  | _, _, i + 1, _, .cons _ t, e => by
    simp only [List.getElem?_cons_succ] at e ⊢
    exact Paired.at' t e
theorem Paired.imp {α β : Type} {F G : α → β → Prop} (f : ∀ a b, F a b → G a b) : ∀ {l₁ : List α} {l₂ : List β}, Paired F l₁ l₂ → Paired G l₁ l₂
  | _, _, .nil => .nil
  | _, _, .cons h t => .cons (f _ _ h) (Paired.imp f t)
theorem Paired.app {α β : Type} {F : α → β → Prop} : ∀ {l₁ m₁ : List α} {l₂ m₂ : List β}, Paired F l₁ l₂ → Paired F m₁ m₂ → Paired F (l₁ ++ m₁) (l₂ ++ m₂)
  | _, _, _, _, .nil, h => h
  | _, _, _, _, .cons h t, k => .cons h (Paired.app t k)
theorem Paired.dropp {α β : Type} {F : α → β → Prop} : ∀ {l₁ : List α} {l₂ : List β} (n : Nat), Paired F l₁ l₂ → Paired F (l₁.drop n) (l₂.drop n)
  | _, _, 0, h => h
  | _, _, n + 1, .nil => .nil
  | _, _, n + 1, .cons _ t => by
    simp only [List.drop_succ_cons]
    exact Paired.dropp n t
theorem Paired.takep {α β : Type} {F : α → β → Prop} : ∀ {l₁ : List α} {l₂ : List β} (n : Nat), Paired F l₁ l₂ → Paired F (l₁.take n) (l₂.take n)
  | _, _, 0, h => by simp only [List.take_zero]; exact .nil
  | _, _, n + 1, .nil => .nil
  | _, _, n + 1, .cons h t => by
    simp only [List.take_succ_cons]
    exact .cons h (Paired.takep n t)
theorem Runs.same {H H' : Hp} {a : Addr} {rs : List Run} (s : Same H H') (h : Runs H a rs) : Runs H' a rs := by
  obtain ⟨xs, e, p⟩ := h
  exact ⟨xs, s _ _ e, Paired.imp (fun _ _ => RunV.same s) p⟩
theorem StV.same {H H' : Hp} {v : V} {st : Option Run} (s : Same H H') (h : StV H v st) : StV H' v st := by
  cases st with
  | none => exact h
  | some r => exact RunV.same s h
/-- the spring: a list of three ints -/
def Spr (H : Hp) (sp : Addr) : Prop := ∃ d s c : Int, H sp = some (.lst [.int d, .int s, .int c]) ∧ 0 ≤ d ∧ d.natAbs < 2 ^ 20000 ∧ 0 ≤ s ∧ s < 2305843009213693951
theorem RunV.but {H H' : Hp} {sp : Addr} {v : V} {r : Run} (z : Spr H sp) (s : But sp H H') (h : RunV H v r) : RunV H' v r := by
  obtain ⟨t, e, h⟩ := h
  obtain ⟨_, _, _, hs, _⟩ := z
  exact ⟨t, e, s _ _ (ne_of h hs (by intro q; cases q)) h⟩
theorem Runs.ne {H : Hp} {sp a : Addr} {rs : List Run} (z : Spr H sp) (h : Runs H a rs) : a ≠ sp := by
  obtain ⟨xs, e, p⟩ := h
  obtain ⟨d, s, c, hs, _⟩ := z
  refine ne_of e hs fun q => ?_
  have q := HO.lst.inj q
  subst q
  cases p with
  | cons h _ =>
    obtain ⟨t, e, _⟩ := h
    cases e
theorem Runs.but {H H' : Hp} {sp a : Addr} {rs : List Run} (z : Spr H sp) (s : But sp H H') (h : Runs H a rs) : Runs H' a rs := by
  have n := Runs.ne z h
  obtain ⟨xs, e, p⟩ := h
  exact ⟨xs, s _ _ n e, Paired.imp (fun _ _ => RunV.but z s) p⟩
theorem StV.but {H H' : Hp} {sp : Addr} {v : V} {st : Option Run} (z : Spr H sp) (s : But sp H H') (h : StV H v st) : StV H' v st := by
  cases st with
  | none => exact h
  | some r => exact RunV.but z s h
theorem Spr.same {H H' : Hp} {sp : Addr} (z : Spr H sp) (s : Same H H') : Spr H' sp := by
  obtain ⟨d, e, c, hs, r⟩ := z
  exact ⟨d, e, c, s _ _ hs, r⟩
def KindOk (s : Str) : Prop := 1 ≤ s.length ∧ s.length ≤ 8 ∧ ∀ c ∈ s.cps.toList, 97 ≤ c ∧ c ≤ 122
def RunOk (r : Run) : Prop := KindOk r.1 ∧ 1 ≤ r.2 ∧ r.2 ≤ 1000000000000000000000000000000
def Alt (rs : List Run) : Prop := ∀ (i : Nat) (x y : Run), rs[i]? = some x → rs[i + 1]? = some y → x.1 ≠ y.1
def SeqOk (rs : List Run) : Prop := rs.length ≤ 400 ∧ (∀ r ∈ rs, RunOk r) ∧ Alt rs
end UP

set_option Elab.async false
set_option linter.all false
set_option maxRecDepth 100000
set_option maxHeartbeats 4000000
namespace UP
open PySem PySem.Spec PyProof.Rows L2
/-! ### repr of plain data, where no other repr is under way -/
def rRepr (K : PySem.W.Frag) : List V → Hp → VK → Prop := fun xs H Q => ∃ (a : Addr) (d : PyData), xs = [.ref a] ∧ Dp K H (.ref a) d ∧ d.showable = true ∧ SeqAt.shaped d = true ∧ d.shown.length ≤ sizeLine ∧ Q (.str d.shown) H
theorem call_reprD {X : Cx} (hg : X.A.guards = some []) (hu : X.A.units + 70 < cLine) : CallR X (.builtin "repr") (rRepr X.K) := by
  intro pins s σ H xs us Q I r h
  obtain ⟨a, d, rfl, dp, sh, sp, sz, q⟩ := h
  obtain ⟨u, rfl, ru⟩ := vals1 r
  cases (show u = Value.ref a from ru)
  obtain ⟨as, rd⟩ := Dp.reads I d (.ref a) (.ref a) dp rfl
  have dd := SeqAt.depth_of_shaped sp
  refine repr_of_reads' rd sh (PyData.noDict_hsm (PyData.hasDict_of_canLay d (SeqAt.canLay_of_shaped sp))) hg (by omega) (fun _ _ e => e) (fun h' u tk hk => ?_) sz
  exact ⟨.str d.shown, H, I.kept (t' := tk) hk, ⟨u, rfl⟩, q⟩
/-! ### the law's own call, around it nothing -/
structure FnC (P : Program) (w : World) (K : PySem.W.Frag) (mg : Str → Option Value) (base : Heap) (f : Addr) (fd : FuncData) (ps : List Str) (sp : Sp) : Prop where
  go : ∀ (out : List Env) (s : Shared) (H : Hp) (args : Args) (us : List Value) (vs : List V) (Q : VK) (E : XK), Env0 P w K mg base callerA out s H → BindsTo s fd args (ps.zip us) → Vals vs us → sp vs H Q E →
    codeAny (model P w) callerA (.call (.ref f) args) (CR CX0 out P w H s Q E) s
theorem callerA_room : Room 8 callerA := ⟨rfl, by decide, by decide⟩
section
variable {P : Program} {w : World} {K : PySem.W.Frag} {mg : Str → Option Value} {base : Heap}
theorem fnC_of {x : Str} {st : Stmt} {f : Addr} {fd : FuncData} {ps N : List Str} {sp : Sp} (F : Fun K x x st f fd) (S : FnScope N ps (defScope st)) (len : ∀ vs H Q E, sp vs H Q E → vs.length = ps.length)
    (body : ∀ (cdv : Value) (out : List Env) (s : Shared) (H : Hp) (vs : List V) (Q : VK) (E : XK), Room 7 (callerA.deeper (envOfC x (defScope st) s.heap.objs.size f cdv)) → sp vs H Q E →
      ∃ t, PSs (cxOf CX0 P w K mg base N x (defScope st) f cdv callerA out s H E).nox (defBody st) t ∧ t { nx := fun _ H' => Q .non H', rt := Q } (start N vs) H) : FnC P w K mg base f fd ps sp := by
  obtain ⟨oc, od, kV, doc, pm, an, cdv, ct, osl, rfl, lk, hcd⟩ := F.ex
  refine ⟨fun out s H args us vs Q E e0 hb rv hsp => ?_⟩
  have inS : K.In s.heap := e0.mod.kin.keeps fun b o z => (e0.bs b o z).1
  have noL : s.heap.NoLimit := e0.mod.nolimit.keeps fun b o z => (e0.bs b o z).1
  have kinds : ∀ y ∈ ps.zip us, (defScope st).names.lookup y.1 = some .local ∨ ((defScope st).names.lookup y.1 = some .cell ∧ ((cellsFrom (s.heap.objs.size + 1) (defScope st).names []).lookup y.1).isSome = true) := by
    intro y hy
    rcases S.par y.1 (List.of_mem_zip (a := y.1) (b := y.2) hy).1 with z | z
    · exact Or.inl z
    · exact Or.inr ⟨z, PySem.W.cellsFrom_some _ _ _ (Or.inl z)⟩
  refine codeAny_call_function callerA_room.depth (inS _ _ lk) rfl S.co S.gen rfl (PySem.W.codeRec_of inS hcd) (hb _ _ _ _ ?_)
  refine wpAny_newFunctionEnv_cells S.kind kinds fun env he s1 inC => ?_
  subst he
  refine ⟨noL.keeps inC.toInCall.keep, codeAny_func ?_⟩
  obtain ⟨t, ht0, hq⟩ := body cdv out s H vs Q E (callerA_room.deeper _) hsp
  have ht := PSs.nox ht0
  have I0 : Inv (cxOf CX0 P w K mg base N x (defScope st) f cdv callerA out s H E) [] (start N vs) H s1 := inv_start S rfl e0 (len _ _ _ _ hsp) rv inC
  refine wpAny_mono (ht.run [] s1 (start N vs) H _ I0 hq) (fun fl s2 h2 => ?_) fun _ _ z => z
  cases fl with
  | next =>
    obtain ⟨σ2, H2, J, q2⟩ := h2
    exact ⟨V.non, H2, J.os, J.bare, J.base, J.hok, rfl, q2⟩
  | ret u =>
    obtain ⟨v, σ2, H2, J, rv2, q2⟩ := h2
    exact ⟨v, H2, J.os, J.bare, J.base, J.hok, rv2, q2⟩
  | brk =>
    obtain ⟨_, _, _, z⟩ := h2
    exact z.elim
  | cont =>
    obtain ⟨_, _, _, z⟩ := h2
    exact z.elim
end
/-- the heap that holds the script alone, locked -/
def oneH (a : Addr) (o : Obj) (xs : List V) : Hp := fun b => if b = a then some (.frz o (.lst xs)) else none
theorem run_law {P : Program} {w : World} {K : PySem.W.Frag} {mg mb : Str → Option Value} {fa a : Addr} {fd : FuncData} {x : Str} {sp : Sp} {s : Shared} {vs : List Value} {ns : List Int}
    (kx : K.In s.heap) (gns : s.heap.Ns mainGlobals mg) (bns : s.heap.Ns builtinsNs mb) (bb : ∀ y : Str, y ≠ "__name__" → mb y = bootBuiltins y) (nl : s.heap.NoLimit) (gens : s.gens = #[])
    (ob : s.heap.get? a = some { cls := .type "list", data := .seq vs.toArray }) (hin : IntsAre vs ns) (len : ns.length ≤ sizeLine) (F : ∀ base : Heap, K.In base → base.Ns mainGlobals mg → FnC P w K mg base fa fd [x] sp)
    (bind : ∀ (s : Shared) (u : Value), BindsTo s fd ⟨[u], []⟩ [(x, u)]) (hsp : ∀ H : Hp, SqL K H a (ns.map V.int) → sp [.ref a] H (fun v _ => v = .bl true) fun _ _ _ => False) :
    codeAny (model P w) callerA (.call (.ref fa) ⟨[.ref a], []⟩) (fun r s' => r = .ok (.ret (.bool true)) ∧ OldK s.heap s'.heap ∧ s'.os = s.os ∧ AllBare s'.gens) s := by
  have rel := vals_ints hin
  have step : ∀ H : Hp, (H = (fun _ => none) ∨ (H = oneH a { cls := .type "list", data := .seq vs.toArray } (ns.map V.int) ∧ K.lookup a = none)) → SqL K H a (ns.map V.int) → HOk P w H s.heap →
      codeAny (model P w) callerA (.call (.ref fa) ⟨[.ref a], []⟩) (fun r s' => r = .ok (.ret (.bool true)) ∧ OldK s.heap s'.heap ∧ s'.os = s.os ∧ AllBare s'.gens) s := by
    intro H hH hS hok
    have only : ∀ b u, H b = some u → b = a ∧ u = .frz { cls := .type "list", data := .seq vs.toArray } (.lst (ns.map V.int)) ∧ K.lookup a = none := by
      intro b u e
      rcases hH with z | ⟨z, z2⟩
      · rw [z] at e
        cases e
      · rw [z] at e
        by_cases hb : b = a
        · have e := (if_pos hb).symm.trans e
          cases e
          exact ⟨hb, rfl, z2⟩
        · have e := (if_neg hb).symm.trans e
          cases e
    have free : ∀ {b : Addr} {o : Obj}, s.heap.get? b = some o → (b = a → False) → (hidT s.heap H).get? b = some o := by
      intro b o e n
      refine hidT_get e ?_
      cases q : H b with
      | none => rfl
      | some u => exact (n (only b u q).1).elim
    have nss : ∀ {b : Addr} {m : Str → Option Value}, s.heap.Ns b m → (hidT s.heap H).Ns b m := by
      intro b m ⟨o, es, ep, e, d, r⟩
      refine ⟨o, es, ep, free e fun z => ?_, d, r⟩
      subst z
      rw [ob] at e
      cases e
      cases d
    have kb : K.In (hidT s.heap H) := by
      intro b o e
      refine hidT_get (kx b o e) ?_
      cases q : H b with
      | none => rfl
      | some u =>
        obtain ⟨z1, _, z2⟩ := only b u q
        rw [z1, z2] at e
        cases e
    have md : Mod K mg (hidT s.heap H) := ⟨kb, nss gns, ⟨mb, nss bns, bb⟩, by obtain ⟨mc, h1, h2⟩ := nl; exact ⟨mc, nss h1, h2⟩⟩
    have env : Env0 P w K mg (hidT s.heap H) callerA [] s H := ⟨rfl, md, fun b o e => of_hidT e, Nat.le_of_eq (hidT_size _ _), trivial, (fun b hb => by cases hb), hok, .of_eq gens⟩
    refine codeAny_mono ((F _ kb (nss gns)).go [] s H ⟨[.ref a], []⟩ [.ref a] [.ref a] _ _ env (bind s (.ref a)) (.cons rfl .nil) (hsp H hS)) fun r s' h => ?_
    cases r with
    | error e => exact h.elim
    | ok fl =>
      cases fl with
      | next => exact h.elim
      | brk => exact h.elim
      | cont => exact h.elim
      | ret u =>
        obtain ⟨v, H', o1, o2, un, hok', rv, q⟩ := h
        have q : v = .bl true := q
        subst q
        cases (show u = Value.bool true from rv)
        refine ⟨rfl, OldK.of_keep fun b o e => ?_, o1, o2⟩
        cases q : H b with
        | none => exact un.keep b o e q (fun z => by cases z) (fun z => by cases z)
        | some u =>
          obtain ⟨_, z, _⟩ := only b u q
          subst z
          obtain ⟨e1, _⟩ := hok b _ q
          obtain ⟨e2, _⟩ := hok' b _ (un.frzs b _ _ q)
          rw [e] at e1
          cases e1
          exact e2
  cases hk : K.lookup a with
  | some o =>
    have e := kx a o hk
    rw [ob] at e
    cases e
    refine step (fun _ => none) (.inl rfl) (.inr ⟨_, vs.toArray, _, hk, rfl, rfl, rfl, ?_, by simpa using rel⟩) fun b u z => by cases z
    rw [List.size_toArray, hin.length]
    exact len
  | none =>
    have at_a : oneH a { cls := .type "list", data := .seq vs.toArray } (ns.map V.int) a = some (.frz { cls := .type "list", data := .seq vs.toArray } (.lst (ns.map V.int))) := if_pos rfl
    refine step _ (.inr ⟨rfl, hk⟩) (.inl (.inr ⟨_, at_a⟩)) fun b u z => ?_
    by_cases hb : b = a
    · subst hb
      rw [at_a] at z
      cases z
      exact ⟨ob, by rw [List.length_map]; exact len, vs, _, rel, ob⟩
    · have z := (if_neg hb).symm.trans z
      cases z
theorem walkC {l : PySem.W.OpenLaw} {n : Nat} {q : Program} {loose : List Str} {XP : (Str → Option Value) → Heap → Prop} {YP : World → Heap → Prop} {d : DefRec} {K : Params → PySem.W.Frag} {sp : World → Sp} {x : Str}
    (hn : l.most = some n) (n2 : n ≤ sizeLine) (df : d.params.defaults = []) (hY : ∀ (w : World) (h : Heap), YP w h → (K w.params).In h)
    (F : ∀ (w : World) (mg : Str → Option Value) (fa : Addr) (h : Heap), (K w.params).In h → h.Ns mainGlobals mg → mg d.name = some (.ref fa) →
      ∃ fd : FuncData, (∀ (s : Shared) (u : Value), BindsTo s fd ⟨[u], []⟩ [(x, u)]) ∧ ∀ base : Heap, (K w.params).In base → base.Ns mainGlobals mg → FnC l.prog w (K w.params) mg base fa fd [x] (sp w))
    (hsp : ∀ (w : World) (H : Hp) (a : Addr) (ns : List Int), ns.length ≤ n → SqL (K w.params) H a (ns.map V.int) → sp w [.ref a] H (fun v _ => v = .bl true) fun _ _ _ => False) :
    PySem.W.WalkO q loose XP YP l.row.toRowW d [] (fun f vs => PySem.call f vs) := by
  refine Att.attach_call hn df fun w s₀ s mg mb fa o pm cd doc a vs ns G Y ho hd hcd hmg hobj hints hlen hg => ?_
  have kx := hY w _ Y
  obtain ⟨fd, hb, hF⟩ := F w mg fa _ kx G.T.g hmg
  exact run_law kx G.T.g G.T.b G.T.builtins G.T.nolimit hg hobj hints (Nat.le_trans hlen n2) hF hb fun H hS => hsp w H a ns hlen hS
end UP

set_option Elab.async false
set_option linter.all false
set_option maxRecDepth 100000
set_option maxHeartbeats 4000000
namespace UP
open PySem PySem.Spec PyProof.Rows L2
/-! ### lists or tuples -/
def Sq2 (H : Hp) (a : Addr) (xs : List V) : Prop := H a = some (.lst xs) ∨ H a = some (.tup xs)
theorem Sq2.same {H H' : Hp} {a : Addr} {xs : List V} (s : Same H H') (h : Sq2 H a xs) : Sq2 H' a xs := h.elim (fun z => .inl (s _ _ z)) (fun z => .inr (s _ _ z))
/-- a walk over the items xs, from the heap H on -/
structure Wk (J : It) (H : Hp) (xs : List V) : Prop where
  go : ∀ i H', Same H H' → i < xs.length → J.go i H'
  stop : ∀ H', Same H H' → J.stop xs.length H'
  yld : ∀ i x H' H'', Same H H' → J.yld i H' x H'' → H'' = H' ∧ xs[i]? = some x
theorem wk_list {K : PySem.W.Frag} {H : Hp} {a : Addr} {xs : List V} (h : H a = some (.lst xs)) : Wk (Itl K a) H xs :=
  ⟨fun i H' s hi => ⟨xs, xs[i], .of (s _ _ h), List.getElem?_eq_getElem hi⟩, fun H' s => ⟨xs, .of (s _ _ h), Nat.le_refl _⟩, fun i x H' H'' s y => ⟨y.1, y.2 xs (.of (s _ _ h))⟩⟩
theorem wk_tup {K : PySem.W.Frag} {H : Hp} {a : Addr} {xs : List V} (h : H a = some (.tup xs)) : Wk (Itt K a) H xs :=
  ⟨fun i H' s hi => ⟨xs, xs[i], .of (s _ _ h), List.getElem?_eq_getElem hi⟩, fun H' s => ⟨xs, .of (s _ _ h), Nat.le_refl _⟩, fun i x H' H'' s y => ⟨y.1, y.2 xs (.of (s _ _ h))⟩⟩
def iSeqV (i : Nat) : TI := fun σ H R => ∃ a xs, σ[i]? = some (some (.ref a)) ∧ Sq2 H a xs ∧ ∀ J, Wk J H xs → R J H
section
variable {X : Cx}
theorem pi_seqV (i : Nat) {x : Str} {pos : Pos} {tg : Expr} (hN : X.N[i]? = some x := by rfl) (hv : Vis X.env.scope x := by first | exact Or.inl rfl | exact Or.inr (Or.inl rfl) | exact Or.inr (Or.inr rfl)) (hd : (x == ("__debug__" : Str)) = false := by decide)
    (hc : (x == ("__classdict__" : Str)) = false := by decide) : PI X tg (.Name x pos) (iSeqV i) := by
  refine ⟨fun pins s σ H R I hw => ?_⟩
  obtain ⟨a, xs, e, h, k⟩ := hw
  rcases h with h | h
  · exact (pi_list (pe_var hN hv hd hc)).run pins s σ H R I ⟨_, e, a, rfl, ⟨xs, .of h⟩, k _ (wk_list h)⟩
  · exact (pi_tup (pe_var hN hv hd hc)).run pins s σ H R I ⟨_, e, a, rfl, ⟨xs, .of h⟩, k _ (wk_tup h)⟩
def gAny (n : Nat) (t : TGs) : TG := fun v σ H Q => ∃ a xs, v = .ref a ∧ Sq2 H a xs ∧ xs.length = n ∧ t xs σ H Q
theorem pg_any {es : List Expr} {k n : Nat} {t : TGs} {pos : Pos} (hc : X.calm = true) (h : PGs X es t) (hn : (assignEach es X.env).length = n := by rfl) (hst : (assignEach es X.env).findIdx? (fun z => z.1) = none := by rfl) : PG X (.Tuple es k pos) (gAny n t) := by
  refine ⟨fun pins s σ H v u Q I r hw => ?_⟩
  obtain ⟨a, xs, e, hx, hl, hw⟩ := hw
  rcases hx with z | z
  · exact (pg_unl hc h hn hst).run pins s σ H v u Q I r ⟨a, xs, e, .of z, hl, hw⟩
  · exact (pg_tup hc h hn hst).run pins s σ H v u Q I r ⟨a, xs, e, .of z, hl, hw⟩
/-- zip(x, x[1:]) -/
structure WkZ (J : It) (H : Hp) (xs : List V) : Prop where
  go : ∀ i H', Same H H' → i + 1 < xs.length → J.go i H'
  stop : ∀ H', Same H H' → J.stop (xs.length - 1) H'
  yld : ∀ i x H' H'', Same H H' → J.yld i H' x H'' → ∃ T x1 x2, x = .ref T ∧ H' T = none ∧ H'' = upd H' T (.tup [x1, x2]) ∧ xs[i]? = some x1 ∧ (i + 1 < xs.length → xs[i + 1]? = some x2)
def iZip1 (i : Nat) : TI := fun σ H R => ∃ a xs, σ[i]? = some (some (.ref a)) ∧ Sq2 H a xs ∧ ∀ J H', Same H H' → WkZ J H' xs → R J H'
theorem cutt_one (xs : List V) : cutV xs (some 1) none = xs.drop 1 := by
  have e : HT.sIx xs.length 0 (some 1) = min 1 xs.length := HT.sIx_nat xs.length 0 1
  unfold cutV
  rw [e, HT.sIx_none]
  cases xs with
  | nil => rfl
  | cons x r =>
    have e1 : min 1 (x :: r).length = 1 := by simp only [List.length_cons]; omega
    rw [e1]
    simp
theorem pi_zip1 {i : Nat} {tg it : Expr} {tl th : TO} (h : PI X tg it (RZ.iZipA X.K (tCons (tVar i) (tCons (tSl (fun x lo hi H Q => rSlL X.K x lo hi H Q ∨ rSlA X.K x lo hi H Q) (tVar i) tl th) tNil))))
    (h1 : ∀ (σ : L2.St) (H : Hp) (Q : Option Int → Hp → Prop), Q (some 1) H → tl σ H Q) (h2 : ∀ (σ : L2.St) (H : Hp) (Q : Option Int → Hp → Prop), Q none H → th σ H Q) : PI X tg it (iZip1 i) := by
  refine ⟨fun pins s σ H R I hw => h.run pins s σ H R I ?_⟩
  obtain ⟨a, xs, e, hx, k⟩ := hw
  refine ⟨_, e, _, e, h1 σ H _ (h2 σ H _ ?_)⟩
  have gn : ∀ j : Nat, (xs.drop 1)[j]? = xs[j + 1]? := fun j => by rw [List.getElem?_drop, Nat.add_comm 1 j]
  rcases hx with hx | hx
  · refine .inl ⟨a, xs, rfl, .of hx, fun c nc => ?_⟩
    have sc : Same H (upd H c (.lst (cutV xs (some 1) none))) := fun b o z => by rw [upd_ne (ne_of_none z nc)]; exact z
    have hc : (upd H c (.lst (cutV xs (some 1) none))) c = some (.lst (xs.drop 1)) := by rw [upd_same, cutt_one]
    refine ⟨a, c, xs, xs.drop 1, rfl, .inl ⟨.of (sc _ _ hx), .of hc, k _ _ sc ⟨fun j H' sj hj => ?_, fun H' sj => ?_, fun j x H' H'' sj y => ?_⟩⟩⟩
    · exact ⟨xs, xs.drop 1, xs[j], xs[j + 1], .of (sj _ _ (sc _ _ hx)), .of (sj _ _ hc), List.getElem?_eq_getElem (by omega), by rw [gn]; exact List.getElem?_eq_getElem hj⟩
    · exact ⟨xs, xs.drop 1, .of (sj _ _ (sc _ _ hx)), .of (sj _ _ hc), .inr (by rw [List.length_drop]; exact Nat.le_refl _)⟩
    · obtain ⟨T, x1, x2, e1, e2, e3, f1, f2⟩ := y
      exact ⟨T, x1, x2, e1, e2, e3, f1 xs (.of (sj _ _ (sc _ _ hx))), fun _ => by rw [← gn]; exact f2 _ (.of (sj _ _ hc))⟩
  · refine .inr ⟨a, xs, rfl, .of hx, fun z => ?_, fun z c nc => ?_⟩
    · have lz : xs.length = 0 := by
        have z1 := z.1
        rw [show HT.sIx xs.length 0 (some 1) = min 1 xs.length from HT.sIx_nat xs.length 0 1] at z1
        omega
      refine ⟨a, a, xs, xs, rfl, .inr ⟨.of hx, .of hx, k _ _ (Same.refl _) ⟨fun j H' sj hj => by omega, fun H' sj => ⟨xs, xs, .of (sj _ _ hx), .of (sj _ _ hx), .inl (by omega)⟩, fun j x H' H'' sj y => ?_⟩⟩⟩
      obtain ⟨T, x1, x2, e1, e2, e3, f1, f2⟩ := y
      exact ⟨T, x1, x2, e1, e2, e3, f1 xs (.of (sj _ _ hx)), fun hj => by omega⟩
    · have sc : Same H (upd H c (.tup (cutV xs (some 1) none))) := fun b o z => by rw [upd_ne (ne_of_none z nc)]; exact z
      have hc : (upd H c (.tup (cutV xs (some 1) none))) c = some (.tup (xs.drop 1)) := by rw [upd_same, cutt_one]
      refine ⟨a, c, xs, xs.drop 1, rfl, .inr ⟨.of (sc _ _ hx), .of hc, k _ _ sc ⟨fun j H' sj hj => ?_, fun H' sj => ?_, fun j x H' H'' sj y => ?_⟩⟩⟩
      · exact ⟨xs, xs.drop 1, xs[j], xs[j + 1], .of (sj _ _ (sc _ _ hx)), .of (sj _ _ hc), List.getElem?_eq_getElem (by omega), by rw [gn]; exact List.getElem?_eq_getElem hj⟩
      · exact ⟨xs, xs.drop 1, .of (sj _ _ (sc _ _ hx)), .of (sj _ _ hc), .inr (by rw [List.length_drop]; exact Nat.le_refl _)⟩
      · obtain ⟨T, x1, x2, e1, e2, e3, f1, f2⟩ := y
        exact ⟨T, x1, x2, e1, e2, e3, f1 xs (.of (sj _ _ (sc _ _ hx))), fun _ => by rw [← gn]; exact f2 _ (.of (sj _ _ hc))⟩
end
/-! ### runs and states, dressed -/
def RunG (H : Hp) (v : V) (r : Run) : Prop := ∃ t, v = .ref t ∧ Sq2 H t [.str r.1, .int r.2]
def RunsG (H : Hp) (v : V) (rs : List Run) : Prop := ∃ a xs, v = .ref a ∧ Sq2 H a xs ∧ Paired (RunG H) xs rs
def StG (H : Hp) (v : V) : Option Run → Prop
  | none => v = .non
  | some r => RunG H v r
theorem RunG.same {H H' : Hp} {v : V} {r : Run} (s : Same H H') (h : RunG H v r) : RunG H' v r := by
  obtain ⟨t, e, h⟩ := h
  exact ⟨t, e, h.same s⟩
theorem RunsG.same {H H' : Hp} {v : V} {rs : List Run} (s : Same H H') (h : RunsG H v rs) : RunsG H' v rs := by
  obtain ⟨a, xs, e, hx, p⟩ := h
  exact ⟨a, xs, e, hx.same s, Paired.imp (fun _ _ => RunG.same s) p⟩
theorem StG.same {H H' : Hp} {v : V} {st : Option Run} (s : Same H H') (h : StG H v st) : StG H' v st := by
  cases st with
  | none => exact h
  | some r => exact RunG.same s h
theorem RunV.dress {H : Hp} {v : V} {r : Run} (h : RunV H v r) : RunG H v r := by
  obtain ⟨t, e, h⟩ := h
  exact ⟨t, e, .inr h⟩
theorem Runs.dress {H : Hp} {a : Addr} {rs : List Run} (h : Runs H a rs) : RunsG H (.ref a) rs := by
  obtain ⟨xs, hx, p⟩ := h
  exact ⟨a, xs, rfl, .inl hx, Paired.imp (fun _ _ => RunV.dress) p⟩
theorem StV.dress {H : Hp} {v : V} {st : Option Run} (h : StV H v st) : StG H v st := by
  cases st with
  | none => exact h
  | some r => exact RunV.dress h
theorem Sq2.but {H H' : Hp} {sp a : Addr} {xs : List V} (z : Spr H sp) (s : But sp H H') (h : Sq2 H a xs) (n : ∀ d e f, xs ≠ [.int d, .int e, .int f]) : Sq2 H' a xs := by
  obtain ⟨d, e, f, hs, _⟩ := z
  rcases h with h | h
  · exact .inl (s _ _ (ne_of h hs fun q => n d e f (HO.lst.inj q)) h)
  · exact .inr (s _ _ (ne_of h hs fun q => by cases q) h)
theorem RunG.but {H H' : Hp} {sp : Addr} {v : V} {r : Run} (z : Spr H sp) (s : But sp H H') (h : RunG H v r) : RunG H' v r := by
  obtain ⟨t, e, h⟩ := h
  exact ⟨t, e, h.but z s fun _ _ _ q => by cases q⟩
theorem RunsG.but {H H' : Hp} {sp : Addr} {v : V} {rs : List Run} (z : Spr H sp) (s : But sp H H') (h : RunsG H v rs) : RunsG H' v rs := by
  obtain ⟨a, xs, e, hx, p⟩ := h
  refine ⟨a, xs, e, hx.but z s fun d _ _ q => ?_, Paired.imp (fun _ _ => RunG.but z s) p⟩
  subst q
  cases p with
  | cons h _ =>
    obtain ⟨_, e, _⟩ := h
    cases e
theorem StG.but {H H' : Hp} {sp : Addr} {v : V} {st : Option Run} (z : Spr H sp) (s : But sp H H') (h : StG H v st) : StG H' v st := by
  cases st with
  | none => exact h
  | some r => exact RunG.but z s h
end UP

set_option Elab.async false
set_option linter.all false
set_option maxRecDepth 100000
set_option maxHeartbeats 4000000
namespace UP
open PySem PySem.Spec PyProof.Rows L2
def topS (i : Nat) : Stmt := PySem.Challenge.pw_unlikepairs_k35_remains_errors.main.body.getD i (.Pass ⟨0, 0, 0, 0⟩)
structure Tx (mg : Str → Option Value) : Prop where
  n_isinstance : mg "isinstance" = none
  n_int : mg "int" = none
  n_bool : mg "bool" = none
  n_str : mg "str" = none
  n_list : mg "list" = none
  n_tuple : mg "tuple" = none
  n_len : mg "len" = none
  n_all : mg "all" = none
  n_zip : mg "zip" = none
  n_sum : mg "sum" = none
  n_min : mg "min" = none
  n_max : mg "max" = none
  n_abs : mg "abs" = none
  n_range : mg "range" = none
  n_repr : mg "repr" = none
  n_enumerate : mg "enumerate" = none
  n_any : mg "any" = none
  n_dict : mg "dict" = none
  n_sorted : mg "sorted" = none
  n_set : mg "set" = none
  n_reversed : mg "reversed" = none
  n_ValueError : mg "ValueError" = none
  c_MAX_LETTERS : ∃ t, mg "MAX_LETTERS" = some (.int 8 t)
  c_MAX_KINDS : ∃ t, mg "MAX_KINDS" = some (.int 12 t)
  c_MAX_COUNT : ∃ t, mg "MAX_COUNT" = some (.int 1000000000000000000000000000000 t)
/-! ### values of any form that a menu holds -/
inductive Dat where
  | non
  | bl (b : Bool)
  | int (n : Int)
  | str (z : Str)
  | dic
  | lst (l : List Dat)
  | tup (l : List Dat)
inductive Rp (H : Hp) : V → Dat → Prop where
  | non : Rp H .non .non
  | bl (b : Bool) : Rp H (.bl b) (.bl b)
  | int (n : Int) : Rp H (.int n) (.int n)
  | str (z : Str) : Rp H (.str z) (.str z)
  | dic {a : Addr} (e : H a = some (.dK [])) : Rp H (.ref a) .dic
  | lst {a : Addr} {xs : List V} {l : List Dat} (e : H a = some (.lst xs)) (h : Paired (Rp H) xs l) : Rp H (.ref a) (.lst l)
  | tup {a : Addr} {xs : List V} {l : List Dat} (e : H a = some (.tup xs)) (h : Paired (Rp H) xs l) : Rp H (.ref a) (.tup l)
theorem Rp.same {H H' : Hp} (s : Same H H') {v : V} {d : Dat} (h : Rp H v d) : Rp H' v d := by
  refine Rp.rec (motive_1 := fun v d _ => Rp H' v d) (motive_2 := fun xs l _ => Paired (Rp H') xs l) .non .bl .int .str ?_ ?_ ?_ .nil ?_ h
  · intro a e
    exact .dic (s _ _ e)
  · intro a xs l e _ ih
    exact .lst (s _ _ e) ih
  · intro a xs l e _ ih
    exact .tup (s _ _ e) ih
  · intro x y xs ys _ _ h1 h2
    exact .cons h1 h2
def Dat.isI : Dat → Bool
  | .int _ => true
  | _ => false
def Dat.inI (lo hi : Int) : Dat → Bool
  | .int n => decide (lo ≤ n ∧ n ≤ hi)
  | _ => false
/-- its parts, if it is a list or a tuple -/
def Dat.parts : Dat → Option (List Dat)
  | .lst l => some l
  | .tup l => some l
  | _ => none
def Dat.listed (d : Dat) (m : Int) : Bool := match d.parts with
  | some l => decide ((l.length : Int) ≤ m)
  | none => false
def Dat.couple (d : Dat) : Bool := match d.parts with
  | some l => decide (l.length = 2)
  | none => false
/-- the name of its type -/
def Dat.ty : Dat → String
  | .non => "NoneType"
  | .bl _ => "bool"
  | .int _ => "int"
  | .str _ => "str"
  | .dic => "dict"
  | .lst _ => "list"
  | .tup _ => "tuple"
theorem Rp.tyx {K : PySem.W.Frag} {H : Hp} {v : V} {d : Dat} (h : Rp H v d) : TyX K H v (.type d.ty) := by
  cases h with
  | non => exact .base .non
  | bl b => exact .base (.bl b)
  | int n => exact .base (.int n)
  | str z => exact .base (.str z)
  | dic e => exact .base (.dK e)
  | lst e _ => exact .base (.lst e)
  | tup e _ => exact .base (.tup e)
theorem kit_lst {K : PySem.W.Frag} : PySem.W.kitAny K (.type "list") [.type "list", .type "tuple"] = some true := kitAny_cons (b := true) (kit_ty (by decide +kernel)) (fun z => nomatch z) (fun _ => rfl)
theorem kit_tup {K : PySem.W.Frag} : PySem.W.kitAny K (.type "tuple") [.type "list", .type "tuple"] = some true := kitAny_cons (b := false) (kit_ty (by decide +kernel)) (fun _ => kitAny_cons (b := true) (kit_ty (by decide +kernel)) (fun z => nomatch z) (fun _ => rfl)) (fun z => nomatch z)
theorem kit_no {K : PySem.W.Frag} {n : String} (h1 : kitB n "list" = some false) (h2 : kitB n "tuple" = some false) : PySem.W.kitAny K (.type n) [.type "list", .type "tuple"] = some false := kitAny_cons (b := false) (kit_ty h1) (fun _ => kitAny_cons (b := false) (kit_ty h2) (fun _ => rfl) (fun z => nomatch z)) (fun z => nomatch z)
theorem Rp.noSeq {K : PySem.W.Frag} {H : Hp} {v : V} {d : Dat} (h : Rp H v d) (hd : d.parts = none) : ∃ t, TyX K H v t ∧ PySem.W.kitAny K t [.type "list", .type "tuple"] = some false := by
  cases h with
  | non => exact ⟨_, .base .non, kit_no (by decide +kernel) (by decide +kernel)⟩
  | bl b => exact ⟨_, .base (.bl b), kit_no (by decide +kernel) (by decide +kernel)⟩
  | int n => exact ⟨_, .base (.int n), kit_no (by decide +kernel) (by decide +kernel)⟩
  | str z => exact ⟨_, .base (.str z), kit_no (by decide +kernel) (by decide +kernel)⟩
  | dic e => exact ⟨_, .base (.dK e), kit_no (by decide +kernel) (by decide +kernel)⟩
  | lst e _ => cases hd
  | tup e _ => cases hd
theorem Rp.seq {H : Hp} {v : V} {d : Dat} (h : Rp H v d) {l : List Dat} (hd : d.parts = some l) : ∃ a xs, v = .ref a ∧ Sq2 H a xs ∧ Paired (Rp H) xs l := by
  cases h with
  | non => cases hd
  | bl b => cases hd
  | int n => cases hd
  | str z => cases hd
  | dic e => cases hd
  | lst e h => cases hd; exact ⟨_, _, rfl, .inl e, h⟩
  | tup e h => cases hd; exact ⟨_, _, rfl, .inr e, h⟩
theorem giP {b : Bool} {A B : Prop} (h : b = true) (x : A) : if b = true then A else B := by
  rw [if_pos h]
  exact x
theorem giN {b : Bool} {A B : Prop} (h : b = false) (x : B) : if b = true then A else B := by
  rw [if_neg (by rw [h]; decide)]
  exact x
section
variable {P : Program} {w : World} {K : PySem.W.Frag} {mg : Str → Option Value} {base : Heap}
/-! is_whole: slots 0:value -/
abbrev s_is_whole : Stmt := topS 25
theorem sc_is_whole : FnScope ["value"] ["value"] (defScope s_is_whole) := ⟨rfl, rfl, rfl, by decide +kernel, rfl, by decide +kernel, by decide +kernel⟩
def sp_is_whole : Sp := fun vs H Q _ => ∃ (v : V) (d : Dat), vs = [v] ∧ Rp H v d ∧ Q (.bl d.isI) H
theorem ok_is_whole (D : Df K mg "is_whole" s_is_whole) (T : Tx mg) : Has P w K mg base 1 "is_whole" ["value"] sp_is_whole := by
  refine has_of D sc_is_whole (fun _ _ _ _ _ _ us hl => match us, hl with | [_], _ => rfl) (fun vs H Q E h => ?_) (fun f cdv A outer s H vs Q E hr h => ?_)
  · obtain ⟨v, d, rfl, _⟩ := h
    rfl
  · obtain ⟨v, d, rfl, hv, q⟩ := h
    refine ⟨_, (pss_one (ps_ret (pe_and (pe_callB call_isi (by rfl) T.n_isinstance (by decide +kernel) (pa_cons (pv 0) (pa_cons (pe_bltn (v := .ty "int") (by rfl) T.n_int (by decide +kernel) rfl) pa_nil))) (pe_one (pe_not (pe_callB call_isi (by rfl) T.n_isinstance (by decide +kernel) (pa_cons (pv 0) (pa_cons (pe_bltn (v := .ty "bool") (by rfl) T.n_bool (by decide +kernel) rfl) pa_nil)))))))), ?_⟩
    cases hv with
    | int n => exact ⟨_, rfl, _, _, _, _, true, rfl, .ty "int", .base (.int n), kit_ty (by decide +kernel), true, rfl, iteT ⟨_, rfl, _, _, _, _, false, rfl, .ty "bool", .base (.int n), kit_ty (by decide +kernel), false, rfl, q⟩⟩
    | bl b => exact ⟨_, rfl, _, _, _, _, true, rfl, .ty "int", .base (.bl b), kit_ty (by decide +kernel), true, rfl, iteT ⟨_, rfl, _, _, _, _, true, rfl, .ty "bool", .base (.bl b), kit_ty (by decide +kernel), true, rfl, q⟩⟩
    | non => exact ⟨_, rfl, _, _, _, _, false, rfl, .ty "int", .base .non, kit_ty (by decide +kernel), false, rfl, iteF q⟩
    | str z => exact ⟨_, rfl, _, _, _, _, false, rfl, .ty "int", .base (.str z), kit_ty (by decide +kernel), false, rfl, iteF q⟩
    | dic e => exact ⟨_, rfl, _, _, _, _, false, rfl, .ty "int", .base (.dK e), kit_ty (by decide +kernel), false, rfl, iteF q⟩
    | lst e h => exact ⟨_, rfl, _, _, _, _, false, rfl, .ty "int", .base (.lst e), kit_ty (by decide +kernel), false, rfl, iteF q⟩
    | tup e h => exact ⟨_, rfl, _, _, _, _, false, rfl, .ty "int", .base (.tup e), kit_ty (by decide +kernel), false, rfl, iteF q⟩
/-! is_within: slots 0:value 1:low 2:high -/
abbrev s_is_within : Stmt := topS 26
theorem sc_is_within : FnScope ["value", "low", "high"] ["value", "low", "high"] (defScope s_is_within) := ⟨rfl, rfl, rfl, by decide +kernel, rfl, by decide +kernel, by decide +kernel⟩
def sp_is_within : Sp := fun vs H Q _ => ∃ (v : V) (d : Dat) (lo hi : Int), vs = [v, .int lo, .int hi] ∧ Rp H v d ∧ Q (.bl (d.inI lo hi)) H
theorem ok_is_within (D : Df K mg "is_within" s_is_within) (G_is_whole : Has P w K mg base 1 "is_whole" ["value"] sp_is_whole) : Has P w K mg base 2 "is_within" ["value", "low", "high"] sp_is_within := by
  refine has_of D sc_is_within (fun _ _ _ _ _ _ us hl => match us, hl with | [_, _, _], _ => rfl) (fun vs H Q E h => ?_) (fun f cdv A outer s H vs Q E hr h => ?_)
  · obtain ⟨v, d, lo, hi, rfl, _⟩ := h
    rfl
  · obtain ⟨v, d, lo, hi, rfl, hv, q⟩ := h
    refine ⟨_, (pss_one (ps_ret (pe_and (pe_callH G_is_whole (hr.mono (by omega)) (by rfl) (pa_cons (pv 0) pa_nil)) (pe_one (pe_chain op_le op_le (pv 1) (pv 0) (pv 2)))))), ?_⟩
    refine ⟨_, rfl, v, d, rfl, hv, d.isI, rfl, ?_⟩
    by_cases ci : d.isI = true
    · refine giP ci ?_
      cases hv with
      | int n =>
        refine ⟨_, rfl, _, rfl, _, _, rfl, rfl, _, rfl, ite2 (fun e => ?_) (fun e => ?_)⟩
        · have e := of_decide_eq_true e
          refine ⟨_, rfl, _, _, rfl, rfl, ?_⟩
          show Q (.bl (decide (n ≤ hi))) H
          rw [show decide (n ≤ hi) = (Dat.int n).inI lo hi by show _ = decide (lo ≤ n ∧ n ≤ hi); simp [e]]
          exact q
        · have e : ¬ lo ≤ n := fun z => e (decide_eq_true z)
          show Q (.bl false) H
          rw [show false = (Dat.int n).inI lo hi by show _ = decide (lo ≤ n ∧ n ≤ hi); simp [e]]
          exact q
      | _ => cases ci
    · refine giN (by simpa using ci) ?_
      have e : d.inI lo hi = false := by
        cases d with
        | int n => exact absurd rfl ci
        | _ => rfl
      rw [e] at q
      exact q
/-! is_listed: slots 0:value 1:most -/
abbrev s_is_listed : Stmt := topS 27
theorem sc_is_listed : FnScope ["value", "most"] ["value", "most"] (defScope s_is_listed) := ⟨rfl, rfl, rfl, by decide +kernel, rfl, by decide +kernel, by decide +kernel⟩
def sp_is_listed : Sp := fun vs H Q _ => ∃ (v : V) (d : Dat) (m : Int), vs = [v, .int m] ∧ Rp H v d ∧ ∀ H', Same H H' → Q (.bl (d.listed m)) H'
theorem ok_is_listed (D : Df K mg "is_listed" s_is_listed) (T : Tx mg) : Has P w K mg base 1 "is_listed" ["value", "most"] sp_is_listed := by
  refine has_of D sc_is_listed (fun _ _ _ _ _ _ us hl => match us, hl with | [_, _], _ => rfl) (fun vs H Q E h => ?_) (fun f cdv A outer s H vs Q E hr h => ?_)
  · obtain ⟨v, d, m, rfl, _⟩ := h
    rfl
  · obtain ⟨v, d, m, rfl, hv, q⟩ := h
    refine ⟨_, (pss_one (ps_ret (pe_and (pe_callB call_isiT (by rfl) T.n_isinstance (by decide +kernel) (pa_cons (pv 0) (pa_cons (pe_tup (pa_cons (pe_bltn (v := .ty "list") (by rfl) T.n_list (by decide +kernel) rfl) (pa_cons (pe_bltn (v := .ty "tuple") (by rfl) T.n_tuple (by decide +kernel) rfl) pa_nil))) pa_nil))) (pe_one (pe_cmpR op_le (pe_callB call_len_seq (by rfl) T.n_len (by decide +kernel) (pa_cons (pv 0) pa_nil)) (pv 1) (nomark _)))))), ?_⟩
    refine ⟨_, rfl, (by show 2 ≤ sizeLine; decide), fun t nt => ?_⟩
    have q := q _ (same_upd (o := .tup [.ty "list", .ty "tuple"]) nt)
    have hv := hv.same (same_upd (o := .tup [.ty "list", .ty "tuple"]) nt)
    cases hd : d.parts with
    | none =>
      obtain ⟨tv, h1, h2⟩ := hv.noSeq (K := K) hd
      refine ⟨_, t, _, _, _, false, rfl, upd_same, .cons (.ty "list") (.cons (.ty "tuple") .nil), h1, h2, false, rfl, iteF ?_⟩
      rw [show d.listed m = false by unfold Dat.listed; rw [hd]] at q
      exact q
    | some l =>
      obtain ⟨a, xs, rfl, hx, hp⟩ := hv.seq hd
      have ll : xs.length = l.length := Paired.len hp
      rw [show d.listed m = decide ((xs.length : Int) ≤ m) by unfold Dat.listed; rw [hd, ll]] at q
      rcases hx with hx | hx
      · refine ⟨_, t, _, _, _, true, rfl, upd_same, .cons (.ty "list") (.cons (.ty "tuple") .nil), .base (.lst hx), kit_lst, true, rfl, iteT ?_⟩
        exact ⟨_, rfl, _, _, rfl, .inl (.of hx), _, rfl, _, _, rfl, rfl, q⟩
      · refine ⟨_, t, _, _, _, true, rfl, upd_same, .cons (.ty "list") (.cons (.ty "tuple") .nil), .base (.tup hx), kit_tup, true, rfl, iteT ?_⟩
        exact ⟨_, rfl, _, _, rfl, .inr (.of hx), _, rfl, _, _, rfl, rfl, q⟩
/-! is_couple: slots 0:value -/
abbrev s_is_couple : Stmt := topS 28
theorem sc_is_couple : FnScope ["value"] ["value"] (defScope s_is_couple) := ⟨rfl, rfl, rfl, by decide +kernel, rfl, by decide +kernel, by decide +kernel⟩
def sp_is_couple : Sp := fun vs H Q _ => ∃ (v : V) (d : Dat), vs = [v] ∧ Rp H v d ∧ ∀ H', Same H H' → Q (.bl d.couple) H'
theorem ok_is_couple (D : Df K mg "is_couple" s_is_couple) (T : Tx mg) : Has P w K mg base 1 "is_couple" ["value"] sp_is_couple := by
  refine has_of D sc_is_couple (fun _ _ _ _ _ _ us hl => match us, hl with | [_], _ => rfl) (fun vs H Q E h => ?_) (fun f cdv A outer s H vs Q E hr h => ?_)
  · obtain ⟨v, d, rfl, _⟩ := h
    rfl
  · obtain ⟨v, d, rfl, hv, q⟩ := h
    refine ⟨_, (pss_one (ps_ret (pe_and (pe_callB call_isiT (by rfl) T.n_isinstance (by decide +kernel) (pa_cons (pv 0) (pa_cons (pe_tup (pa_cons (pe_bltn (v := .ty "list") (by rfl) T.n_list (by decide +kernel) rfl) (pa_cons (pe_bltn (v := .ty "tuple") (by rfl) T.n_tuple (by decide +kernel) rfl) pa_nil))) pa_nil))) (pe_one (pe_cmpR op_eq (pe_callB call_len_seq (by rfl) T.n_len (by decide +kernel) (pa_cons (pv 0) pa_nil)) pe_int (nomark _)))))), ?_⟩
    refine ⟨_, rfl, (by show 2 ≤ sizeLine; decide), fun t nt => ?_⟩
    have q := q _ (same_upd (o := .tup [.ty "list", .ty "tuple"]) nt)
    have hv := hv.same (same_upd (o := .tup [.ty "list", .ty "tuple"]) nt)
    cases hd : d.parts with
    | none =>
      obtain ⟨tv, h1, h2⟩ := hv.noSeq (K := K) hd
      refine ⟨_, t, _, _, _, false, rfl, upd_same, .cons (.ty "list") (.cons (.ty "tuple") .nil), h1, h2, false, rfl, iteF ?_⟩
      rw [show d.couple = false by unfold Dat.couple; rw [hd]] at q
      exact q
    | some l =>
      obtain ⟨a, xs, rfl, hx, hp⟩ := hv.seq hd
      have ll : xs.length = l.length := Paired.len hp
      have eb : decide (V.int (xs.length : Int) = V.int 2) = d.couple := by
        unfold Dat.couple
        rw [hd]
        show _ = decide (l.length = 2)
        rw [← ll]
        exact decide_eq_decide.mpr ⟨fun z => by have := V.int.inj z; omega, fun z => by rw [z]; rfl⟩
      rw [← eb] at q
      rcases hx with hx | hx
      · exact ⟨_, t, _, _, _, true, rfl, upd_same, .cons (.ty "list") (.cons (.ty "tuple") .nil), .base (.lst hx), kit_lst, true, rfl, iteT ⟨_, rfl, _, _, rfl, .inl (.of hx), rfl, q⟩⟩
      · exact ⟨_, t, _, _, _, true, rfl, upd_same, .cons (.ty "list") (.cons (.ty "tuple") .nil), .base (.tup hx), kit_tup, true, rfl, iteT ⟨_, rfl, _, _, rfl, .inr (.of hx), rfl, q⟩⟩
end
end UP

set_option Elab.async false
set_option linter.all false
set_option maxRecDepth 100000
set_option maxHeartbeats 4000000
namespace UP
open PySem PySem.Spec PyProof.Rows L2
theorem iteP {b : Bool} {A B : Prop} (h : b = true) (x : A) : if b = true then A else B := by
  rw [if_pos h]
  exact x
theorem iteN {b : Bool} {A B : Prop} (h : b = false) (x : B) : if b = true then A else B := by
  rw [if_neg (by rw [h]; decide)]
  exact x
theorem yesT {σ : L2.St} {H : Hp} {A B : Hp → Prop} (h : A H) : tYes σ H (fun b H3 => if b = true then A H3 else B H3) := by
  show (if true = true then A H else B H)
  exact iteT h
theorem lc_gen {J : It} {n : Nat} {g : TG} {tt : TT} {te : TE} {vs : List Nat} {σ : L2.St} {H1 : Hp} {D : Addr} {Qd : Hp → Prop} (Pv : Nat → Hp → Prop) (h0 : Pv 0 (upd H1 D (.lst [])))
    (hg : ∀ i H, i < n → Pv i H → J.go i H) (hst : ∀ H, Pv n H → J.stop n H)
    (hs : ∀ i x H H', i < n → Pv i H → J.yld i H x H' → g x (wipe σ vs) H' fun σ2 H2 => wipe σ2 vs = wipe σ vs ∧ tt σ2 H2 fun b H3 =>
      if b = true then te σ2 H3 fun y H4 => ∃ acc, H4 D = some (.lst acc) ∧ acc.length < sizeLine ∧ Pv (i + 1) (upd H4 D (.lst (acc ++ [y]))) else Pv (i + 1) H3) (hd : ∀ H, Pv n H → Qd H) :
    ∃ W : Nat → Nat → Hp → Prop, (∃ m, W 0 m (upd H1 D (.lst []))) ∧ ∀ i m H, W i m H →
      (J.stop i H ∧ Qd H) ∨ (J.go i H ∧ ∃ Nx : Hp → Prop, (∀ H', Nx H' → ∃ m', m' < m ∧ W (i + 1) m' H') ∧ ∀ x H', J.yld i H x H' → g x (wipe σ vs) H' fun σ2 H2 => wipe σ2 vs = wipe σ vs ∧ tt σ2 H2 fun b H3 =>
        if b = true then te σ2 H3 fun y H4 => ∃ acc, H4 D = some (.lst acc) ∧ acc.length < sizeLine ∧ Nx (upd H4 D (.lst (acc ++ [y]))) else Nx H3) := by
  refine ⟨fun i m H => m = n - i ∧ i ≤ n ∧ Pv i H, ⟨n, by simp, Nat.zero_le _, h0⟩, ?_⟩
  rintro i m H ⟨rfl, hi, p⟩
  by_cases hlt : i < n
  · exact .inr ⟨hg i H hlt p, Pv (i + 1), fun H' p' => ⟨n - (i + 1), by omega, rfl, hlt, p'⟩, fun x H' y => hs i x H H' hlt p y⟩
  · have e : i = n := by omega
    subst e
    exact .inl ⟨hst H p, hd H p⟩
section
variable {X : Cx} {K : PySem.W.Frag}
theorem ix_tupK (h : X.K = K) : IxR X (rIxT K) := h ▸ ix_tup
theorem ix_listK (h : X.K = K) : IxR X (rIxL K) := h ▸ ix_list
theorem pg_tupK {es : List Expr} {k : Nat} {t : TGs} {n : Nat} {pos : Pos} (h : X.K = K) (hc : X.calm = true) (hp : PGs X es t)
    (hn : (assignEach es X.env).length = n := by rfl) (hst : (assignEach es X.env).findIdx? (fun z => z.1) = none := by rfl) : PG X (.Tuple es k pos) (gTup K n t) := by
  subst h
  exact pg_tup hc hp hn hst
theorem call_len_seqK (h : X.K = K) : CallR X (.builtin "len") (fun xs H Q => ∃ p ys, xs = [.ref p] ∧ (SqL K H p ys ∨ SqT K H p ys) ∧ Q (.int ys.length) H) := by
  subst h
  exact call_len_seq
end
theorem ix_seqK {X : Cx} {K : PySem.W.Frag} (h : X.K = K) : IxR X (rIx K) := h ▸ ix_seq
/-! ### lists that grow -/
theorem same_grow {H H4 : Hp} {D : Addr} {o : HO} (n : H D = none) (s : Same H H4) : Same H (upd H4 D o) := fun b x e => by
  rw [upd_ne (ne_of_none e n)]
  exact s b x e
theorem RunV.grow {H : Hp} {D : Addr} {acc acc' : List V} {v : V} {r : Run} (hD : H D = some (.lst acc)) (h : RunV H v r) : RunV (upd H D (.lst acc')) v r := by
  obtain ⟨t, e, h⟩ := h
  refine ⟨t, e, ?_⟩
  rw [upd_ne (ne_of h hD (by intro q; cases q))]
  exact h
theorem prs_grow {H : Hp} {D : Addr} {acc acc' : List V} {xs : List V} {rs : List Run} (hD : H D = some (.lst acc)) (h : Paired (RunV H) xs rs) : Paired (RunV (upd H D (.lst acc'))) xs rs := Paired.imp (fun _ _ => RunV.grow hD) h
theorem prs_same {H H' : Hp} {xs : List V} {rs : List Run} (s : Same H H') (h : Paired (RunV H) xs rs) : Paired (RunV H') xs rs := Paired.imp (fun _ _ => RunV.same s) h
theorem take_snoc {α : Type} {l : List α} {i : Nat} {x : α} (h : l[i]? = some x) : l.take (i + 1) = l.take i ++ [x] := by
  rw [List.take_add_one, h]
  rfl
theorem lc_wk {J : It} {H0 H1 : Hp} {xs : List V} {g : TG} {tt : TT} {te : TE} {vs : List Nat} {σ : L2.St} {D : Addr} {Qd : Hp → Prop} (wk : Wk J H0 xs) (Pv : Nat → Hp → Prop) (hsm : ∀ i H, Pv i H → Same H0 H) (h0 : Pv 0 (upd H1 D (.lst [])))
    (hs : ∀ i x H, xs[i]? = some x → Pv i H → g x (wipe σ vs) H fun σ2 H2 => wipe σ2 vs = wipe σ vs ∧ tt σ2 H2 fun b H3 =>
      if b = true then te σ2 H3 fun y H4 => ∃ acc, H4 D = some (.lst acc) ∧ acc.length < sizeLine ∧ Pv (i + 1) (upd H4 D (.lst (acc ++ [y]))) else Pv (i + 1) H3) (hd : ∀ H, Pv xs.length H → Qd H) :
    ∃ W : Nat → Nat → Hp → Prop, (∃ m, W 0 m (upd H1 D (.lst []))) ∧ ∀ i m H, W i m H →
      (J.stop i H ∧ Qd H) ∨ (J.go i H ∧ ∃ Nx : Hp → Prop, (∀ H', Nx H' → ∃ m', m' < m ∧ W (i + 1) m' H') ∧ ∀ x H', J.yld i H x H' → g x (wipe σ vs) H' fun σ2 H2 => wipe σ2 vs = wipe σ vs ∧ tt σ2 H2 fun b H3 =>
        if b = true then te σ2 H3 fun y H4 => ∃ acc, H4 D = some (.lst acc) ∧ acc.length < sizeLine ∧ Nx (upd H4 D (.lst (acc ++ [y]))) else Nx H3) := by
  refine lc_gen Pv h0 (fun i H hi p => wk.go i H (hsm i H p) hi) (fun H p => wk.stop H (hsm _ H p)) (fun i x H H' hi p y => ?_) hd
  obtain ⟨e, ex⟩ := wk.yld i x H H' (hsm i H p) y
  subst e
  exact hs i x _ ex p
theorem for_wk {J : It} {H0 H : Hp} {xs : List V} {g : TG} {tb : TS} {D : Ends} {σ : L2.St} (wk : Wk J H0 xs) (Pv : Nat → L2.St → Hp → Prop) (hsm : ∀ i σ H, Pv i σ H → Same H0 H) (h0 : Pv 0 σ H)
    (hs : ∀ i x σ H, xs[i]? = some x → Pv i σ H → g x σ H fun σ2 H2 => tb { D with nx := Pv (i + 1), ct := Pv (i + 1), bk := D.nx } σ2 H2) (hd : ∀ σ H, Pv xs.length σ H → D.nx σ H) :
    ∃ W : Nat → Nat → L2.St → Hp → Prop, (∃ m, W 0 m σ H) ∧ ∀ i m σ H, W i m σ H →
      (J.stop i H ∧ D.nx σ H) ∨ (J.go i H ∧ ∃ N : L2.St → Hp → Prop, (∀ σ' H', N σ' H' → ∃ m', m' < m ∧ W (i + 1) m' σ' H') ∧ ∀ x H', J.yld i H x H' → g x σ H' fun σ2 H2 => tb { D with nx := N, ct := N, bk := D.nx } σ2 H2) := by
  refine ⟨fun i m σ H => m = xs.length - i ∧ i ≤ xs.length ∧ Pv i σ H, ⟨xs.length, by omega, Nat.zero_le _, h0⟩, ?_⟩
  rintro i m σ H ⟨rfl, hi, p⟩
  by_cases hlt : i < xs.length
  · refine Or.inr ⟨wk.go i H (hsm i σ H p) hlt, Pv (i + 1), fun σ' H' p' => ⟨xs.length - (i + 1), by omega, rfl, hlt, p'⟩, fun x H' y => ?_⟩
    obtain ⟨e, ex⟩ := wk.yld i x H H' (hsm i σ H p) y
    subst e
    exact hs i x σ _ ex p
  · have e : i = xs.length := by omega
    subst e
    exact Or.inl ⟨wk.stop H (hsm _ σ H p), hd σ H p⟩
section
variable {P : Program} {w : World} {K : PySem.W.Frag} {mg : Str → Option Value} {base : Heap}
theorem lex1 {c d : Nat} : (!decide (([c] : List Nat) < [d])) = decide (d ≤ c) := by
  have e : (([c] : List Nat) < [d]) ↔ c < d := by
    rw [List.cons_lt_cons_iff]
    simp
  by_cases h : c < d
  · rw [decide_eq_true (e.mpr h), decide_eq_false (by omega)]
    rfl
  · rw [decide_eq_false (fun z => h (e.mp z)), decide_eq_true (by omega)]
    rfl
/-! ### what the functions say of such a value -/
def kindB (z : Str) : Bool := decide (1 ≤ (z.length : Int) ∧ (z.length : Int) ≤ 8) && z.cps.toList.all fun c => decide (97 ≤ c ∧ c ≤ 122)
def Dat.kind : Dat → Bool
  | .str z => kindB z
  | _ => false
/-- its text, if it is one, is not too long -/
def Dat.fit : Dat → Prop
  | .str z => z.length ≤ 4000
  | _ => True
def Dat.two (d : Dat) : Option (Dat × Dat) := match d.parts with
  | some [x, y] => some (x, y)
  | _ => none
def Dat.run (d : Dat) : Bool := match d.two with
  | some (x, y) => x.kind && y.inI 1 1000000000000000000000000000000
  | none => false
def Dat.pos : Dat → Bool
  | .int n => decide (1 ≤ n)
  | _ => false
def Dat.state (d : Dat) : Bool := match d with
  | .non => true
  | d => match d.two with
    | some (x, y) => x.kind && y.pos
    | none => false
def Dat.fit2 (d : Dat) : Prop := ∀ x y, d.two = some (x, y) → x.fit
theorem kitS {K : PySem.W.Frag} {H : Hp} {v : V} {d : Dat} (h : Rp H v d) (hn : ∀ z, d ≠ .str z) : ∃ t, TyX K H v t ∧ PySem.W.kitOne K t (.type "str") = some false := by
  cases h with
  | non => exact ⟨_, .base .non, kit_ty (by decide +kernel)⟩
  | bl b => exact ⟨_, .base (.bl b), kit_ty (by decide +kernel)⟩
  | int n => exact ⟨_, .base (.int n), kit_ty (by decide +kernel)⟩
  | str z => exact absurd rfl (hn z)
  | dic e => exact ⟨_, .base (.dK e), kit_ty (by decide +kernel)⟩
  | lst e _ => exact ⟨_, .base (.lst e), kit_ty (by decide +kernel)⟩
  | tup e _ => exact ⟨_, .base (.tup e), kit_ty (by decide +kernel)⟩
theorem all_map {α : Type} (l : List α) (f : α → Bool) : ((l.map f).all id) = l.all f := by
  induction l with
  | nil => rfl
  | cons x t ih => rw [List.map_cons, List.all_cons, List.all_cons, ih]; rfl
/-! is_kind: slots 0:value 1:letter -/
abbrev s_is_kind : Stmt := topS 29
theorem sc_is_kind : FnScope ["value", "letter"] ["value"] (defScope s_is_kind) := ⟨rfl, rfl, rfl, by decide +kernel, rfl, by decide +kernel, by decide +kernel⟩
def sp_is_kind : Sp := fun vs H Q _ => ∃ (v : V) (d : Dat), vs = [v] ∧ Rp H v d ∧ d.fit ∧ ∀ H', Same H H' → Q (.bl d.kind) H'
theorem ok_is_kind (D : Df K mg "is_kind" s_is_kind) (T : Tx mg) : Has P w K mg base 1 "is_kind" ["value"] sp_is_kind := by
  refine has_of D sc_is_kind (fun _ _ _ _ _ _ us hl => match us, hl with | [_], _ => rfl) (fun vs H Q E h => ?_) (fun f cdv A outer s H vs Q E hr h => ?_)
  · obtain ⟨v, d, rfl, _⟩ := h
    rfl
  · obtain ⟨v, d, rfl, hv, fit, q⟩ := h
    refine ⟨_, (pss_cons (ps_if (PW.pt (pw_or (pt_not (pt_val (pe_callB call_isi (by rfl) T.n_isinstance (by decide +kernel) (pa_cons (pv 0) (pa_cons (pe_bltn (v := .ty "str") (by rfl) T.n_str (by decide +kernel) rfl) pa_nil))))) (pw_or1 (pt_not (pt_chain op_le op_le pe_int (pe_callB call_len_str (by rfl) T.n_len (by decide +kernel) (pa_cons (pv 0) pa_nil)) (pe_glI T.c_MAX_LETTERS (by rfl))))))) (pss_one (ps_ret pe_bl)) pss_nil)
    (pss_one (ps_ret (pe_callB (cr_all rfl) (by rfl) T.n_all (by decide +kernel) (pa_cons (pe_lc (own := [("letter", 1)]) rfl sc_is_kind.nd (pi_str (pv 0)) (blkOk_by (N := ["value", "letter"]) (sc := defScope s_is_kind) (by decide +kernel)) (fun _ _ _ _ _ => (pg_name (i := 1) sc_is_kind.nd rfl (by first | exact Or.inl rfl | exact Or.inr rfl))) (fun _ _ _ _ _ => pts_nil) (fun _ _ _ _ _ => (pe_chain op_le_str op_le_str pe_str (pv 1) pe_str))) pa_nil))))), ?_⟩
    by_cases hn : ∀ z, d ≠ .str z
    · obtain ⟨t, h1, h2⟩ := kitS (K := K) hv hn
      have e : d.kind = false := by
        cases d with
        | str z => exact absurd rfl (hn z)
        | _ => rfl
      rw [e] at q
      exact ⟨_, rfl, _, _, _, _, false, rfl, .ty "str", h1, h2, false, rfl, iteT (q H (Same.refl H))⟩
    have hn : ∃ z, d = .str z := by
      apply Classical.byContradiction
      intro c
      exact hn fun z e => c ⟨z, e⟩
    obtain ⟨z, rfl⟩ := hn
    cases hv
    have fit : z.length ≤ 4000 := fit
    refine ⟨_, rfl, _, _, _, _, true, rfl, .ty "str", .base (.str z), kit_ty (by decide +kernel), true, rfl, iteF ?_⟩
    have no : ¬ (1 ≤ (z.length : Int) ∧ (z.length : Int) ≤ 8) → (Dat.str z).kind = false := fun c => by
      show (decide _ && _) = false
      rw [decide_eq_false c]
      rfl
    refine ⟨_, rfl, z, rfl, smallE (by omega), _, _, rfl, rfl, _, rfl, ?_⟩
    by_cases c1 : (1 : Int) ≤ (z.length : Int)
    · refine iteP (decide_eq_true c1) ⟨_, _, rfl, rfl, _, rfl, ?_⟩
      by_cases c2 : (z.length : Int) ≤ 8
      · refine iteN ?_ ?_
        · show (!decide ((z.length : Int) ≤ 8)) = false
          rw [decide_eq_true c2]
          rfl
        refine ⟨_, rfl, z, rfl, fun L nL => lc_gen (n := z.cps.size) (fun i H' => Same H H' ∧ H' L = some (.lst (((z.cps.toList.take i).map fun c => decide (97 ≤ c ∧ c ≤ 122)).map V.bl))) ⟨same_upd nL, upd_same⟩ (fun i H' hi _ => hi) (fun H' _ => Nat.le_refl _) (fun i x H1 H2 hi p y => ?_) (fun H' p => ?_)⟩
        · obtain ⟨rfl, c, ec, rfl⟩ := y
          obtain ⟨sm, hL⟩ := p
          have ec' : z.cps.toList[i]? = some c := by
            rw [Array.getElem?_toList]
            exact ec
          have ea : ("a" : Str).cps.toList = [97] := by decide +kernel
          have ez : ("z" : Str).cps.toList = [122] := by decide +kernel
          have lim : (((z.cps.toList.take i).map fun c => decide (97 ≤ c ∧ c ≤ 122)).map V.bl).length < sizeLine := by
            simp only [List.length_map, List.length_take]
            exact small (by have : z.cps.size = z.length := rfl; omega)
          have put : ∀ b : Bool, b = decide (97 ≤ c ∧ c ≤ 122) → Same H (upd H2 L (.lst ((((z.cps.toList.take i).map fun c => decide (97 ≤ c ∧ c ≤ 122)).map V.bl) ++ [V.bl b]))) ∧ (upd H2 L (.lst ((((z.cps.toList.take i).map fun c => decide (97 ≤ c ∧ c ≤ 122)).map V.bl) ++ [V.bl b]))) L = some (.lst (((z.cps.toList.take (i + 1)).map fun c => decide (97 ≤ c ∧ c ≤ 122)).map V.bl)) := by
            intro b hb
            refine ⟨same_grow nL sm, ?_⟩
            rw [upd_same, take_snoc ec', List.map_append, List.map_append, hb]
            rfl
          have t1 : (!decide (([c] : List Nat) < ("a" : Str).cps.toList)) = decide (97 ≤ c) := by rw [ea, lex1]
          have t2 : (!decide ((("z" : Str).cps.toList) < ([c] : List Nat))) = decide (c ≤ 122) := by rw [ez, lex1]
          refine ⟨rfl, yesT ⟨_, rfl, _, _, rfl, rfl, _, rfl, ?_⟩⟩
          by_cases b1 : 97 ≤ c
          · refine iteP (t1.trans (decide_eq_true b1)) ⟨_, _, rfl, rfl, _, hL, lim, put _ ?_⟩
            exact t2.trans (decide_eq_decide.mpr ⟨fun z => ⟨b1, z⟩, fun z => z.2⟩)
          · refine iteN (t1.trans (decide_eq_false b1)) ⟨_, hL, lim, put _ ?_⟩
            exact (decide_eq_false (p := 97 ≤ c ∧ c ≤ 122) (fun z => b1 z.1)).symm
        · refine ⟨L, _, rfl, .of p.2, ?_⟩
          have e : (((z.cps.toList.take z.cps.size).map fun c => decide (97 ≤ c ∧ c ≤ 122)).all id) = (Dat.str z).kind := by
            rw [all_map, List.take_of_length_le (by rw [Array.length_toList]; exact Nat.le_refl _)]
            show _ = (decide _ && _)
            rw [decide_eq_true ⟨c1, c2⟩]
            rfl
          rw [e]
          exact q H' p.1
      · refine iteP ?_ ?_
        · show (!decide ((z.length : Int) ≤ 8)) = true
          rw [decide_eq_false c2]
          rfl
        rw [no fun k => c2 k.2] at q
        exact q H (Same.refl H)
    · rw [no fun k => c1 k.1] at q
      exact iteN (decide_eq_false c1) ⟨_, rfl, iteT (q H (Same.refl H))⟩
theorem at0 {α : Type} {x y : α} : atI [x, y] 0 = some x := rfl
theorem at1 {α : Type} {x y : α} : atI [x, y] 1 = some y := rfl
theorem ix0 {K : PySem.W.Frag} {H : Hp} {t : Addr} {x y : V} {Q : VK} (h : Sq2 H t [x, y]) (q : Q x H) : rIx K (.ref t) (.int 0) H Q := h.elim (fun z => .inl ⟨t, _, 0, _, rfl, rfl, .of z, at0, q⟩) (fun z => .inr (.inl ⟨t, _, 0, _, rfl, rfl, .of z, at0, q⟩))
theorem ix1 {K : PySem.W.Frag} {H : Hp} {t : Addr} {x y : V} {Q : VK} (h : Sq2 H t [x, y]) (q : Q y H) : rIx K (.ref t) (.int 1) H Q := h.elim (fun z => .inl ⟨t, _, 1, _, rfl, rfl, .of z, at1, q⟩) (fun z => .inr (.inl ⟨t, _, 1, _, rfl, rfl, .of z, at1, q⟩))
theorem Rp.two {H : Hp} {v : V} {d x y : Dat} (h : Rp H v d) (e : d.two = some (x, y)) : ∃ a vx vy, v = .ref a ∧ Sq2 H a [vx, vy] ∧ Rp H vx x ∧ Rp H vy y := by
  cases hp : d.parts with
  | none =>
    unfold Dat.two at e
    rw [hp] at e
    cases e
  | some l =>
    obtain ⟨a, xs, rfl, hx, hq⟩ := h.seq hp
    unfold Dat.two at e
    rw [hp] at e
    cases hq with
    | nil => cases e
    | cons h1 t1 =>
      cases t1 with
      | nil => cases e
      | cons h2 t2 =>
        cases t2 with
        | nil =>
          cases e
          exact ⟨a, _, _, rfl, hx, h1, h2⟩
        | cons h3 t3 => cases e
theorem couple_two {d : Dat} : d.couple = d.two.isSome := by
  unfold Dat.couple Dat.two
  cases d.parts with
  | none => rfl
  | some l =>
    match l with
    | [] => rfl
    | [x] => rfl
    | [x, y] => rfl
    | x :: y :: z :: t =>
      show decide ((x :: y :: z :: t).length = 2) = false
      exact decide_eq_false (by simp only [List.length_cons]; omega)
/-! is_run: slots 0:value -/
abbrev s_is_run : Stmt := topS 30
theorem sc_is_run : FnScope ["value"] ["value"] (defScope s_is_run) := ⟨rfl, rfl, rfl, by decide +kernel, rfl, by decide +kernel, by decide +kernel⟩
def sp_is_run : Sp := fun vs H Q _ => ∃ (v : V) (d : Dat), vs = [v] ∧ Rp H v d ∧ d.fit2 ∧ ∀ H', Same H H' → Q (.bl d.run) H'
theorem ok_is_run (D : Df K mg "is_run" s_is_run) (T : Tx mg) (G_is_couple : Has P w K mg base 1 "is_couple" ["value"] sp_is_couple) (G_is_kind : Has P w K mg base 1 "is_kind" ["value"] sp_is_kind) (G_is_within : Has P w K mg base 2 "is_within" ["value", "low", "high"] sp_is_within) :
    Has P w K mg base 3 "is_run" ["value"] sp_is_run := by
  refine has_of D sc_is_run (fun _ _ _ _ _ _ us hl => match us, hl with | [_], _ => rfl) (fun vs H Q E h => ?_) (fun f cdv A outer s H vs Q E hr h => ?_)
  · obtain ⟨v, d, rfl, _⟩ := h
    rfl
  · obtain ⟨v, d, rfl, hv, fit, q⟩ := h
    refine ⟨_, (pss_one (ps_ret (pe_and (pe_callH G_is_couple (hr.mono (by omega)) (by rfl) (pa_cons (pv 0) pa_nil)) (pe_and (pe_callH G_is_kind (hr.mono (by omega)) (by rfl) (pa_cons (pe_ix ix_seq (pv 0) pe_int (fun _ _ => rfl)) pa_nil)) (pe_one (pe_callH G_is_within (hr.mono (by omega)) (by rfl) (pa_cons (pe_ix ix_seq (pv 0) pe_int (fun _ _ => rfl)) (pa_cons pe_int (pa_cons (pe_glI T.c_MAX_COUNT (by rfl)) pa_nil))))))))), ?_⟩
    refine ⟨_, rfl, v, d, rfl, hv, fun H1 s1 => ⟨d.couple, rfl, ?_⟩⟩
    cases ht : d.two with
    | none =>
      have e1 : d.couple = false := by rw [couple_two, ht]; rfl
      have e2 : d.run = false := by unfold Dat.run; rw [ht]
      rw [e2] at q
      refine iteN e1 ?_
      exact q _ s1
    | some p =>
      obtain ⟨x, y⟩ := p
      have e1 : d.couple = true := by rw [couple_two, ht]; rfl
      have e2 : d.run = (x.kind && y.inI 1 1000000000000000000000000000000) := by unfold Dat.run; rw [ht]
      rw [e2] at q
      obtain ⟨a, vx, vy, rfl, hs, hx, hy⟩ := hv.two ht
      refine iteP e1 ?_
      refine ⟨_, rfl, ix0 (hs.same s1) ⟨vx, x, rfl, hx.same s1, fit x y ht, fun H2 s2 => ⟨x.kind, rfl, ?_⟩⟩⟩
      by_cases ck : x.kind = true
      · refine iteP ck ?_
        rw [ck] at q
        refine ⟨_, rfl, ix1 ((hs.same s1).same s2) ⟨vy, y, 1, _, rfl, hy.same (s1.trans s2), q _ (s1.trans s2)⟩⟩
      · have ck : x.kind = false := by simpa using ck
        refine iteN ck ?_
        rw [ck] at q
        exact q _ (s1.trans s2)
/-! is_state: slots 0:value -/
abbrev s_is_state : Stmt := topS 31
theorem sc_is_state : FnScope ["value"] ["value"] (defScope s_is_state) := ⟨rfl, rfl, rfl, by decide +kernel, rfl, by decide +kernel, by decide +kernel⟩
def sp_is_state : Sp := fun vs H Q _ => ∃ (v : V) (d : Dat), vs = [v] ∧ Rp H v d ∧ d.fit2 ∧ ∀ H', Same H H' → Q (.bl d.state) H'
theorem ok_is_state (D : Df K mg "is_state" s_is_state) (T : Tx mg) (G_is_couple : Has P w K mg base 1 "is_couple" ["value"] sp_is_couple) (G_is_kind : Has P w K mg base 1 "is_kind" ["value"] sp_is_kind) (G_is_whole : Has P w K mg base 1 "is_whole" ["value"] sp_is_whole) :
    Has P w K mg base 2 "is_state" ["value"] sp_is_state := by
  refine has_of D sc_is_state (fun _ _ _ _ _ _ us hl => match us, hl with | [_], _ => rfl) (fun vs H Q E h => ?_) (fun f cdv A outer s H vs Q E hr h => ?_)
  · obtain ⟨v, d, rfl, _⟩ := h
    rfl
  · obtain ⟨v, d, rfl, hv, fit, q⟩ := h
    refine ⟨_, (pss_cons (ps_if (pt_cmpR op_isN (pv 0) pe_non (nomark _)) (pss_one (ps_ret pe_bl)) pss_nil)
    (pss_one (ps_ret (pe_and (pe_callH G_is_couple (hr.mono (by omega)) (by rfl) (pa_cons (pv 0) pa_nil)) (pe_and (pe_callH G_is_kind (hr.mono (by omega)) (by rfl) (pa_cons (pe_ix ix_seq (pv 0) pe_int (fun _ _ => rfl)) pa_nil)) (pe_and (pe_callH G_is_whole (hr.mono (by omega)) (by rfl) (pa_cons (pe_ix ix_seq (pv 0) pe_int (fun _ _ => rfl)) pa_nil)) (pe_one (pe_cmpR op_ge (pe_ix ix_seq (pv 0) pe_int (fun _ _ => rfl)) pe_int (nomark _))))))))), ?_⟩
    by_cases dn : d = .non
    · subst dn
      cases hv
      exact ⟨_, rfl, rfl, _, rfl, iteP rfl (q H (Same.refl H))⟩
    have vn : decide (v = V.non) = false := by
      refine decide_eq_false fun z => dn ?_
      subst z
      cases hv
      rfl
    have e0 : d.state = match d.two with
      | some (x, y) => x.kind && y.pos
      | none => false := by
      cases d with
      | non => exact absurd rfl dn
      | _ => rfl
    refine ⟨_, rfl, rfl, _, rfl, iteN vn ?_⟩
    refine ⟨_, rfl, v, d, rfl, hv, fun H1 s1 => ⟨d.couple, rfl, ?_⟩⟩
    cases ht : d.two with
    | none =>
      have e1 : d.couple = false := by rw [couple_two, ht]; rfl
      rw [e0, ht] at q
      refine iteN e1 ?_
      exact q _ s1
    | some p =>
      obtain ⟨x, y⟩ := p
      have e1 : d.couple = true := by rw [couple_two, ht]; rfl
      rw [e0, ht] at q
      obtain ⟨a, vx, vy, rfl, hs, hx, hy⟩ := hv.two ht
      refine iteP e1 ?_
      refine ⟨_, rfl, ix0 (hs.same s1) ⟨vx, x, rfl, hx.same s1, fit x y ht, fun H2 s2 => ⟨x.kind, rfl, ?_⟩⟩⟩
      have s12 := s1.trans s2
      by_cases ck : x.kind = true
      · refine iteP ck ?_
        refine ⟨_, rfl, ix1 ((hs.same s1).same s2) ⟨vy, y, rfl, hy.same s12, y.isI, rfl, ?_⟩⟩
        have q := q _ s12
        rw [show (match some (x, y) with | some (x, y) => x.kind && y.pos | none => false) = y.pos by show (x.kind && y.pos) = y.pos; rw [ck]; rfl] at q
        by_cases ci : y.isI = true
        · refine iteP ci ?_
          cases hy with
          | int n =>
            exact ⟨_, rfl, ix1 ((hs.same s1).same s2) ⟨_, _, rfl, rfl, q⟩⟩
          | _ => cases ci
        · have ci : y.isI = false := by simpa using ci
          refine iteN ci ?_
          rw [show y.pos = false by cases y with | int n => cases ci | _ => rfl] at q
          exact q
      · have ck : x.kind = false := by simpa using ck
        refine iteN ck ?_
        have q := q _ s12
        rw [show (match some (x, y) with | some (x, y) => x.kind && y.pos | none => false) = false by show (x.kind && y.pos) = false; rw [ck]; rfl] at q
        exact q
end
end UP

set_option Elab.async false
set_option linter.all false
set_option maxRecDepth 100000
set_option maxHeartbeats 4000000
namespace UP
open PySem PySem.Spec PyProof.Rows L2
/-- the kind of a run -/
def Dat.key (d : Dat) : Str := match d.two with
  | some (.str z, _) => z
  | _ => ""
def keyAt (l : List Dat) (i : Nat) : Str := match l[i]? with
  | some d => d.key
  | none => ""
def stepB (l : List Dat) (i : Nat) : Bool := !decide (V.str (keyAt l i) = V.str (keyAt l (i + 1)))
def Dat.seq (d : Dat) : Bool := match d.parts with
  | some l => decide ((l.length : Int) ≤ 400) && (l.all Dat.run && ((List.range (l.length - 1)).map (stepB l)).all id)
  | none => false
def Dat.fits (d : Dat) : Prop := ∀ l, d.parts = some l → l.length ≤ 100000 ∧ ∀ x ∈ l, x.fit2
theorem run_two {d : Dat} (h : d.run = true) : ∃ z y, d.two = some (.str z, y) ∧ d.key = z := by
  unfold Dat.run at h
  cases ht : d.two with
  | none => rw [ht] at h; cases h
  | some p =>
    obtain ⟨x, y⟩ := p
    rw [ht] at h
    have h : (x.kind && y.inI 1 1000000000000000000000000000000) = true := h
    cases x with
    | str z => exact ⟨z, y, rfl, by unfold Dat.key; rw [ht]⟩
    | _ => cases h
theorem range_snoc {α : Type} (f : Nat → α) (i : Nat) : (List.range (i + 1)).map f = (List.range i).map f ++ [f i] := by
  rw [List.range_succ, List.map_append]
  rfl
section
variable {P : Program} {w : World} {K : PySem.W.Frag} {mg : Str → Option Value} {base : Heap}
end
end UP

set_option Elab.async false
set_option linter.all false
set_option maxRecDepth 100000
set_option maxHeartbeats 4000000
namespace UP
open PySem PySem.Spec PyProof.Rows L2
/-! ### functions that may raise -/
section
variable (P : Program) (w : World) (K : PySem.W.Frag) (mg : Str → Option Value) (base : Heap)
def HasX (k : Nat) (x : Str) (ps : List Str) (sp : Sp) : Prop :=
  ∃ f fd, mg x = some (.ref f) ∧ PySem.W.keepIn K (.ref f) = true ∧ Binds K fd ps [] ∧ FnOk P w K mg base (L2.CX P w) k f fd ps sp
end
/-- the class x of errors stands at C -/
structure Ex (K : PySem.W.Frag) (mg : Str → Option Value) (x : Str) (C : Addr) : Prop where
  g : mg x = some (.ref C)
  x : PySem.W.excIn K C [.type "ValueError", .type "Exception", .type "BaseException", .type "object"] "ValueError.__new__" = true
  k : PySem.W.keepIn K (.ref C) = true
  b : PySem.W.subIn K (.ref C) (.type "BaseException") = some true
  t : PySem.W.typeIn K (.ref C) = some (.type "type")
/-! ### values that are runs, sequences, states -/
def Dat.rr (d : Dat) : Run := match d.two with
  | some (.str z, .int n) => (z, n)
  | _ => ("", 0)
def Dat.stt (d : Dat) : Option Run := match d with
  | .non => none
  | d => some d.rr
def Dat.runs (d : Dat) : List Run := match d.parts with
  | some l => l.map Dat.rr
  | none => []
theorem kind_ok {z : Str} (h : kindB z = true) : KindOk z := by
  unfold kindB at h
  have h := Bool.and_eq_true_iff.mp h
  have h1 := of_decide_eq_true h.1
  refine ⟨by omega, by omega, fun c hc => ?_⟩
  exact of_decide_eq_true (List.all_eq_true.mp h.2 c hc)
theorem run_str {d : Dat} (h : d.run = true) : ∃ z n, d.two = some (.str z, .int n) ∧ d.rr = (z, n) ∧ d.key = z ∧ KindOk z ∧ 1 ≤ n ∧ n ≤ 1000000000000000000000000000000 := by
  obtain ⟨z, y, ht, hk⟩ := run_two h
  unfold Dat.run at h
  rw [ht] at h
  have h := Bool.and_eq_true_iff.mp (show (kindB z && y.inI 1 1000000000000000000000000000000) = true from h)
  cases y with
  | int n =>
    have h2 : 1 ≤ n ∧ n ≤ 1000000000000000000000000000000 := of_decide_eq_true h.2
    exact ⟨z, n, ht, by unfold Dat.rr; rw [ht], hk, kind_ok h.1, h2.1, h2.2⟩
  | _ => cases h.2
theorem run_rp {H : Hp} {v : V} {d : Dat} (hv : Rp H v d) (h : d.run = true) : RunG H v d.rr ∧ RunOk d.rr := by
  obtain ⟨z, n, ht, hr, _, k, n1, n2⟩ := run_str h
  obtain ⟨a, vx, vy, rfl, hs, hx, hy⟩ := hv.two ht
  cases hx
  cases hy
  rw [hr]
  exact ⟨⟨a, rfl, hs⟩, k, n1, n2⟩
theorem seq_rp {H : Hp} {v : V} {d : Dat} (hv : Rp H v d) (h : d.seq = true) : RunsG H v d.runs ∧ SeqOk d.runs := by
  cases hd : d.parts with
  | none =>
    unfold Dat.seq at h
    rw [hd] at h
    cases h
  | some l =>
    unfold Dat.seq at h
    rw [hd] at h
    have h := Bool.and_eq_true_iff.mp (show (decide ((l.length : Int) ≤ 400) && (l.all Dat.run && ((List.range (l.length - 1)).map (stepB l)).all id)) = true from h)
    have h1 := of_decide_eq_true h.1
    have h2 := Bool.and_eq_true_iff.mp h.2
    have er : d.runs = l.map Dat.rr := by unfold Dat.runs; rw [hd]
    rw [er]
    obtain ⟨a, xs, rfl, hx, hp⟩ := hv.seq hd
    have ra : ∀ x ∈ l, x.run = true := fun x hx => List.all_eq_true.mp h2.1 x hx
    have pair : ∀ {xs : List V} {l : List Dat}, Paired (Rp H) xs l → (∀ x ∈ l, x.run = true) → Paired (RunG H) xs (l.map Dat.rr) := by
      intro xs l hp
      induction hp with
      | nil => intro _; exact .nil
      | cons h _ ih =>
        intro k
        exact .cons (run_rp h (k _ (List.mem_cons_self ..))).1 (ih fun x hx => k x (List.mem_cons_of_mem _ hx))
    refine ⟨⟨a, xs, rfl, hx, pair hp ra⟩, by rw [List.length_map]; omega, fun r hr => ?_, fun i x y ex ey => ?_⟩
    · obtain ⟨e, he, rfl⟩ := List.mem_map.mp hr
      obtain ⟨z, n, _, hr, _, k, n1, n2⟩ := run_str (ra e he)
      rw [hr]
      exact ⟨k, n1, n2⟩
    · rw [List.getElem?_map] at ex ey
      cases e1 : l[i]? with
      | none => rw [e1] at ex; cases ex
      | some p =>
        cases e2 : l[i + 1]? with
        | none => rw [e2] at ey; cases ey
        | some p2 =>
          rw [e1] at ex
          rw [e2] at ey
          cases ex
          cases ey
          have hi : i < l.length - 1 := by
            have := (List.getElem?_eq_some_iff.mp e2).1
            omega
          have st := List.all_eq_true.mp h2.2 (stepB l i) (List.mem_map.mpr ⟨i, List.mem_range.mpr hi, rfl⟩)
          obtain ⟨z1, n1, _, r1, k1, _⟩ := run_str (ra p (List.mem_of_getElem? e1))
          obtain ⟨z2, n2, _, r2, k2, _⟩ := run_str (ra p2 (List.mem_of_getElem? e2))
          unfold stepB keyAt at st
          rw [e1, e2] at st
          have st : (!decide (V.str p.key = V.str p2.key)) = true := st
          rw [k1, k2] at st
          rw [r1, r2]
          intro z
          have z : z1 = z2 := z
          rw [z, decide_eq_true rfl] at st
          cases st
theorem state_rp {H : Hp} {v : V} {d : Dat} (hv : Rp H v d) (h : d.state = true) : StG H v d.stt ∧ ∀ r, d.stt = some r → KindOk r.1 ∧ 1 ≤ r.2 := by
  by_cases dn : d = .non
  · subst dn
    cases hv
    exact ⟨rfl, fun r hr => by cases hr⟩
  have e0 : d.state = match d.two with
    | some (x, y) => x.kind && y.pos
    | none => false := by
    cases d with
    | non => exact absurd rfl dn
    | _ => rfl
  have e1 : d.stt = some d.rr := by
    cases d with
    | non => exact absurd rfl dn
    | _ => rfl
  rw [e0] at h
  rw [e1]
  cases ht : d.two with
  | none => rw [ht] at h; cases h
  | some p =>
    obtain ⟨x, y⟩ := p
    rw [ht] at h
    have h := Bool.and_eq_true_iff.mp (show (x.kind && y.pos) = true from h)
    obtain ⟨a, vx, vy, rfl, hs, hx, hy⟩ := hv.two ht
    cases hx with
    | str z =>
      cases hy with
      | int n =>
        have er : d.rr = (z, n) := by unfold Dat.rr; rw [ht]
        rw [er]
        exact ⟨⟨a, rfl, hs⟩, fun r hr => by cases hr; exact ⟨kind_ok h.1, of_decide_eq_true h.2⟩⟩
      | _ => cases h.2
    | _ => cases h.1
section
variable {P : Program} {w : World} {K : PySem.W.Frag} {mg : Str → Option Value} {base : Heap}
theorem hasX_of {x : Str} {st : Stmt} {ps N : List Str} {k : Nat} {sp : Sp} (D : Df K mg x st) (S : FnScope N ps (defScope st))
    (hb : ∀ (kV doc pm : Value) (an : Option Addr) (cdv ct : Value) (us : List Value), us.length = ps.length → bindArgs (PySem.W.fnOf x x (defArgs st) (defBody st) (defScope st) .none kV doc pm an cdv ct) ⟨us, []⟩ = pure (ps.zip us))
    (len : ∀ vs H Q E, sp vs H Q E → vs.length = ps.length)
    (body : ∀ (f : Addr) (cdv : Value) (A : Around) (outer : List Env) (s : Shared) (H : Hp) (vs : List V) (Q : VK) (E : XK), Room k (A.deeper (envOfC x (defScope st) s.heap.objs.size f cdv)) → sp vs H Q E →
      ∃ t, PSs (cxOf (L2.CX P w) P w K mg base N x (defScope st) f cdv A outer s H E) (defBody st) t ∧ t { nx := fun _ H' => Q .non H', rt := Q } (start N vs) H) :
    HasX P w K mg base (k + 1) x ps sp := by
  obtain ⟨f, fd, g, F⟩ := D
  exact ⟨f, fd, g, F.kp, F.binds hb, F.okX S len fun cdv A outer s H vs Q E hr h => body f cdv A outer s H vs Q E hr h⟩
/-! checked_state: slots 0:state -/
abbrev s_checked_state : Stmt := topS 33
theorem sc_checked_state : FnScope ["state"] ["state"] (defScope s_checked_state) := ⟨rfl, rfl, rfl, by decide +kernel, rfl, by decide +kernel, by decide +kernel⟩
def sp_checked_state (C : Addr) : Sp := fun vs H Q E => ∃ (v : V) (d : Dat), vs = [v] ∧ Rp H v d ∧ d.fit2 ∧ (d.state = true → ∀ H' v', Same H H' → StV H' v' d.stt → Q v' H') ∧ (d.state = false → ∀ H', Same H H' → E (.ref C) none H')
theorem ok_checked_state {C : Addr} (D : Df K mg "checked_state" s_checked_state) (T : Tx mg) (X1 : Ex K mg "InvalidState" C) (G_is_state : Has P w K mg base 2 "is_state" ["value"] sp_is_state) : HasX P w K mg base 3 "checked_state" ["state"] (sp_checked_state C) := by
  refine hasX_of D sc_checked_state (fun _ _ _ _ _ _ us hl => match us, hl with | [_], _ => rfl) (fun vs H Q E h => ?_) (fun f cdv A outer s H vs Q E hr h => ?_)
  · obtain ⟨v, r, rfl, _⟩ := h
    rfl
  · obtain ⟨v, d, rfl, hv, fit, q, qe⟩ := h
    refine ⟨_, (pss_cons (ps_if (pt_not (pt_val (pe_callH G_is_state (hr.mono (by omega)) (by rfl) (pa_cons (pv 0) pa_nil)))) (pss_one (ps_raise rfl (takes_of rfl rfl rfl rfl) (pmk_own PySem.F.excBase_ValueError X1.x X1.g X1.k (raises_own X1.b X1.t) (by exact rfl)))) pss_nil)
    (pss_one (ps_ret (pe_ifExp (pt_cmpR op_isN (pv 0) pe_non (nomark _)) pe_non (pe_callTy call_tuple_of (by rfl) T.n_tuple (by decide +kernel) (pa_cons (pv 0) pa_nil)))))), ?_⟩
    refine ⟨_, rfl, v, d, rfl, hv, fit, fun H1 s1 => ⟨_, rfl, ?_⟩⟩
    by_cases cs : d.state = true
    · refine iteN (by rw [cs]; rfl) ?_
      have hv1 := hv.same s1
      obtain ⟨hg, _⟩ := state_rp hv1 cs
      have q := q cs
      cases hst : d.stt with
      | none =>
        rw [hst] at hg q
        have hg : v = .non := hg
        subst hg
        exact ⟨_, rfl, rfl, _, rfl, iteP rfl (q H1 _ s1 rfl)⟩
      | some r =>
        rw [hst] at hg q
        obtain ⟨t, rfl, ht⟩ := hg
        refine ⟨_, rfl, rfl, _, rfl, iteN rfl ⟨_, rfl, t, [.str r.1, .int r.2], rfl, ?_⟩⟩
        rcases ht with z | z
        · exact .inl ⟨.of z, fun l nl => q _ _ (s1.trans (same_upd nl)) ⟨l, rfl, upd_same⟩⟩
        · exact .inr ⟨.of z, q H1 _ s1 ⟨t, rfl, z⟩⟩
    · have cs : d.state = false := by simpa using cs
      exact iteP (by rw [cs]; rfl) (qe cs _ s1)
end
end UP

set_option Elab.async false
set_option linter.all false
set_option maxRecDepth 100000
set_option maxHeartbeats 4000000
namespace UP
open PySem PySem.Spec PyProof.Rows L2
section
variable {P : Program} {w : World} {K : PySem.W.Frag} {mg : Str → Option Value} {base : Heap}
end
end UP

set_option Elab.async false
set_option linter.all false
set_option maxRecDepth 100000
set_option maxHeartbeats 4000000
namespace UP
open PySem PySem.Spec PyProof.Rows L2
section
variable {P : Program} {w : World} {K : PySem.W.Frag} {mg : Str → Option Value} {base : Heap}
def lenR (rs : List Run) : Int := (rs.map (·.2)).sum
/-! length_of: slots 0:runs 1:kind 2:count -/
abbrev s_length_of : Stmt := topS 34
theorem sc_length_of : FnScope ["runs", "kind", "count"] ["runs"] (defScope s_length_of) := ⟨rfl, rfl, rfl, by decide +kernel, rfl, by decide +kernel, by decide +kernel⟩
def sp_length_of : Sp := fun vs H Q _ => ∃ (a : Addr) (rs : List Run), vs = [.ref a] ∧ Runs H a rs ∧ rs.length ≤ 1000 ∧ ∀ H', Same H H' → Q (.int (lenR rs)) H'
theorem ok_length_of (D : Df K mg "length_of" s_length_of) (T : Tx mg) : Has P w K mg base 1 "length_of" ["runs"] sp_length_of := by
  refine has_of D sc_length_of (fun _ _ _ _ _ _ us hl => match us, hl with | [_], _ => rfl) (fun vs H Q E h => ?_) (fun f cdv A outer s H vs Q E hr h => ?_)
  · obtain ⟨v, r, rfl, _⟩ := h
    rfl
  · obtain ⟨a, rs, rfl, ⟨xs, hx, hp⟩, l4, q⟩ := h
    have lx : xs.length = rs.length := Paired.len hp
    refine ⟨_, (pss_one (ps_ret (pe_callB (cr_sum rfl) (by rfl) T.n_sum (by decide +kernel) (pa_cons (pe_lc (own := [("kind", 1), ("count", 2)]) rfl sc_length_of.nd (pi_list (pv 0)) (blkOk_by (N := ["runs", "kind", "count"]) (sc := defScope s_length_of) (by decide +kernel)) (fun _ _ _ _ _ => (pg_tupK (K := K) (n := 2) rfl rfl (pgs_cons (pg_name (i := 1) sc_length_of.nd rfl (by first | exact Or.inl rfl | exact Or.inr rfl)) (pgs_cons (pg_name (i := 2) sc_length_of.nd rfl (by first | exact Or.inl rfl | exact Or.inr rfl)) pgs_nil)))) (fun _ _ _ _ _ => pts_nil) (fun _ _ _ _ _ => (pv 2))) pa_nil)))), ?_⟩
    refine ⟨_, rfl, a, rfl, ⟨xs, .of hx⟩, fun L nL => lc_list (K := K) (a := a) (xs := xs) (fun i H' => Same H H' ∧ H' L = some (.lst (((rs.map (·.2)).take i).map V.int))) ⟨same_upd nL, upd_same⟩ (fun i H' _ p => .of (p.1 _ _ hx)) (fun i x H2 ex p => ?_) (fun H2 p => ?_)⟩
    · obtain ⟨sm, hL⟩ := p
      obtain ⟨r, er, hr1⟩ := Paired.at hp ex
      have hi : i < xs.length := (List.getElem?_eq_some_iff.mp ex).1
      obtain ⟨t, rfl, ht⟩ := RunV.same sm hr1
      refine ⟨t, _, rfl, .of ht, rfl, _, _, rfl, _, _, rfl, rfl, rfl, yesT ⟨_, rfl, _, hL, ?_, same_grow nL sm, ?_⟩⟩
      · simp only [List.length_map, List.length_take]
        exact small (by omega)
      · rw [upd_same, take_snoc (x := r.2) (by rw [List.getElem?_map, er]; rfl), List.map_append]
        rfl
    · refine ⟨L, (rs.map (fun r : Run => r.2)), rfl, .of ?_, q H2 p.1⟩
      have := p.2
      rw [List.take_of_length_le (by rw [List.length_map]; omega)] at this
      exact this
end
end UP

set_option Elab.async false
set_option linter.all false
set_option maxRecDepth 100000
set_option maxHeartbeats 4000000
namespace UP
open PySem PySem.Spec PyProof.Rows L2
/-! ### the mirror of cut -/
theorem lenR_nil : lenR [] = 0 := rfl
theorem lenR_cons (r : Run) (l : List Run) : lenR (r :: l) = r.2 + lenR l := by
  unfold lenR
  rw [List.map_cons, List.sum_cons]
theorem lenR_app (l m : List Run) : lenR (l ++ m) = lenR l + lenR m := by
  induction l with
  | nil => rw [List.nil_append, lenR_nil]; omega
  | cons r t ih => rw [List.cons_append, lenR_cons, lenR_cons, ih]; omega
theorem lenR_snoc (l : List Run) (r : Run) : lenR (l ++ [r]) = lenR l + r.2 := by
  rw [lenR_app, lenR_cons, lenR_nil]
  omega
def sizeR (b s e c : Int) : Int := (if b + c < e then b + c else e) - (if b > s then b else s)
def pieceR (b s e : Int) (r : Run) : List Run := if 0 < sizeR b s e r.2 then [(r.1, sizeR b s e r.2)] else []
def cutR (s e : Int) : Int → List Run → List Run
  | _, [] => []
  | b, r :: t => pieceR b s e r ++ cutR s e (b + r.2) t
theorem cutR_snoc (s e : Int) : ∀ (l : List Run) (b : Int) (r : Run), cutR s e b (l ++ [r]) = cutR s e b l ++ pieceR (b + lenR l) s e r
  | [], b, r => by
    show pieceR b s e r ++ [] = [] ++ pieceR (b + lenR []) s e r
    rw [lenR_nil, Int.add_zero, List.append_nil, List.nil_append]
  | x :: t, b, r => by
    show pieceR b s e x ++ cutR s e (b + x.2) (t ++ [r]) = (pieceR b s e x ++ cutR s e (b + x.2) t) ++ pieceR (b + lenR (x :: t)) s e r
    rw [cutR_snoc s e t, lenR_cons, List.append_assoc, Int.add_assoc]
theorem pieceR_len (b s e : Int) (r : Run) : (pieceR b s e r).length ≤ 1 := by
  unfold pieceR
  split <;> simp
theorem cutR_len (s e : Int) : ∀ (l : List Run) (b : Int), (cutR s e b l).length ≤ l.length
  | [], _ => Nat.le_refl _
  | r :: t, b => by
    show (pieceR b s e r ++ cutR s e (b + r.2) t).length ≤ (r :: t).length
    have h1 := pieceR_len b s e r
    have h2 := cutR_len s e t (b + r.2)
    rw [List.length_append, List.length_cons]
    omega
section
variable {P : Program} {w : World} {K : PySem.W.Frag} {mg : Str → Option Value} {base : Heap}
/-! cut: slots 0:runs 1:start 2:length 3:end 4:part 5:before 6:kind 7:count 8:after 9:size -/
abbrev s_cut : Stmt := topS 35
theorem sc_cut : FnScope ["runs", "start", "length", "end", "part", "before", "kind", "count", "after", "size"] ["runs", "start", "length"] (defScope s_cut) := ⟨rfl, rfl, rfl, by decide +kernel, rfl, by decide +kernel, by decide +kernel⟩
def sp_cut : Sp := fun vs H Q _ => ∃ (a : Addr) (rs : List Run) (s l : Int), vs = [.ref a, .int s, .int l] ∧ Runs H a rs ∧ rs.length ≤ 1000 ∧ ∀ H' p, Same H H' → H p = none → Runs H' p (cutR s (s + l) 0 rs) → Q (.ref p) H'
theorem ok_cut (D : Df K mg "cut" s_cut) (T : Tx mg) : Has P w K mg base 1 "cut" ["runs", "start", "length"] sp_cut := by
  refine has_of D sc_cut (fun _ _ _ _ _ _ us hl => match us, hl with | [_, _, _], _ => rfl) (fun vs H Q E h => ?_) (fun f cdv A outer s₀ H vs Q E hr h => ?_)
  · obtain ⟨a, rs, s, l, rfl, _⟩ := h
    rfl
  · obtain ⟨a, rs, s, l, rfl, ⟨xs, hx, hp⟩, l4, q⟩ := h
    have lx : xs.length = rs.length := Paired.len hp
    refine ⟨_, (pss_cons (ps_set (i := 3) sc_cut.nd rfl (by first | exact Or.inl rfl | exact Or.inr rfl) (pe_op op_add (pv 1) (pv 2)))
    (pss_cons (ps_set (i := 4) sc_cut.nd rfl (by first | exact Or.inl rfl | exact Or.inr rfl) (pe_lst pa_nil))
    (pss_cons (ps_set (i := 5) sc_cut.nd rfl (by first | exact Or.inl rfl | exact Or.inr rfl) pe_int)
    (pss_cons (ps_for PassesOwn.never rfl (pi_list (pv 0)) (pg_tup rfl (pgs_cons (pg_name (i := 6) sc_cut.nd rfl (by first | exact Or.inl rfl | exact Or.inr rfl)) (pgs_cons (pg_name (i := 7) sc_cut.nd rfl (by first | exact Or.inl rfl | exact Or.inr rfl)) pgs_nil)))
      (pss_cons (ps_set (i := 8) sc_cut.nd rfl (by first | exact Or.inl rfl | exact Or.inr rfl) (pe_op op_add (pv 5) (pv 7)))
    (pss_cons (ps_set (i := 9) sc_cut.nd rfl (by first | exact Or.inl rfl | exact Or.inr rfl) (pe_op op_sub (pe_callB (call_min2 rfl) (by rfl) T.n_min (by decide +kernel) (pa_cons (pv 3) (pa_cons (pv 8) pa_nil))) (pe_callB (call_max2 rfl) (by rfl) T.n_max (by decide +kernel) (pa_cons (pv 1) (pa_cons (pv 5) pa_nil)))))
    (pss_cons (ps_if (pt_cmpR op_gt (pv 9) pe_int (nomark _)) (pss_one (ps_expr (pe_bm PySem.F.plainAttrs_list PySem.F.slot_list_append PySem.F.type_list_append mt_append (pv 4) (pa_cons (pe_tup (pa_cons (pv 6) (pa_cons (pv 9) pa_nil))) pa_nil)))) pss_nil)
    (pss_one (ps_set (i := 5) sc_cut.nd rfl (by first | exact Or.inl rfl | exact Or.inr rfl) (pv 8)))))))
    (pss_one (ps_ret (pv 4))))))), ?_⟩
    refine ⟨_, rfl, _, rfl, _, _, rfl, rfl, Nat.zero_le _, fun p np => ?_⟩
    refine ⟨_, rfl, a, rfl, ⟨xs, .of (same_upd np _ _ hx)⟩, for_list (K := K) (a := a) (xs := xs) (fun i σ H' => ∃ b y6 y7 y8 y9, b = lenR (rs.take i) ∧ σ = [some (.ref a), some (.int s), some (.int l), some (.int (s + l)), some (.ref p), some (.int b), y6, y7, y8, y9] ∧ Same H H' ∧ ∃ ys, H' p = some (.lst ys) ∧ Paired (RunV H') ys (cutR s (s + l) 0 (rs.take i)))
      ⟨0, none, none, none, none, rfl, rfl, same_upd np, [], upd_same, .nil⟩ (fun i σ H' _ hP => ?_) (fun i x σ H1 ex hP => ?_) (fun σ H1 hP => ?_)⟩
    · obtain ⟨_, _, _, _, _, _, _, sm, _⟩ := hP
      exact .of (sm _ _ hx)
    · obtain ⟨b, y6, y7, y8, y9, rfl, rfl, sm, ys, hL, hy⟩ := hP
      obtain ⟨r, er, hr1⟩ := Paired.at hp ex
      have hi : i < xs.length := (List.getElem?_eq_some_iff.mp ex).1
      obtain ⟨t, rfl, ht⟩ := RunV.same sm hr1
      have el : lenR (rs.take (i + 1)) = lenR (rs.take i) + r.2 := by rw [take_snoc er, lenR_snoc]
      have ec : cutR s (s + l) 0 (rs.take (i + 1)) = cutR s (s + l) 0 (rs.take i) ++ pieceR (lenR (rs.take i)) s (s + l) r := by
        rw [take_snoc er, cutR_snoc, Int.zero_add]
      refine ⟨t, _, rfl, .of ht, rfl, _, _, rfl, _, _, rfl, rfl, ?_⟩
      refine ⟨_, rfl, _, rfl, _, _, rfl, rfl, ?_⟩
      refine ⟨_, rfl, _, rfl, _, _, rfl, _, rfl, _, rfl, _, _, rfl, _, _, rfl, rfl, ?_⟩
      refine ⟨_, rfl, _, _, rfl, rfl, _, rfl, ite2 (fun e => ?_) (fun e => ?_)⟩
      · have e : 0 < sizeR (lenR (rs.take i)) s (s + l) r.2 := of_decide_eq_true e
        have epc : pieceR (lenR (rs.take i)) s (s + l) r = [(r.1, sizeR (lenR (rs.take i)) s (s + l) r.2)] := if_pos e
        refine ⟨_, rfl, .inl ⟨rfl, _, SqL.of hL⟩, _, rfl, _, rfl, (by show 2 ≤ sizeLine; decide), fun n nn => ⟨p, _, _, rfl, rfl, same_upd nn _ _ hL, ?_, ?_⟩⟩
        · have h1 := Paired.len hy
          have h2 := cutR_len s (s + l) (rs.take i) 0
          rw [List.length_take] at h2
          exact small (by omega)
        · refine ⟨_, rfl, _, _, _, _, _, el.symm, rfl, same_grow np (sm.trans (same_upd nn)), _, upd_same, ?_⟩
          · rw [ec, epc]
            exact Paired.app (prs_grow (same_upd nn _ _ hL) (prs_same (same_upd nn) hy)) (.cons (RunV.grow (same_upd nn _ _ hL) ⟨n, rfl, upd_same⟩) .nil)
      · have e : ¬ 0 < sizeR (lenR (rs.take i)) s (s + l) r.2 := fun z => e (decide_eq_true z)
        have epc : pieceR (lenR (rs.take i)) s (s + l) r = [] := if_neg e
        refine ⟨_, rfl, _, _, _, _, _, el.symm, rfl, sm, _, hL, ?_⟩
        · rw [ec, epc, List.append_nil]
          exact hy
    · obtain ⟨b, y6, y7, y8, y9, rfl, rfl, sm, ys, hL, hy⟩ := hP
      rw [lx, List.take_length] at hy
      exact ⟨_, rfl, q H1 p sm np ⟨ys, hL, hy⟩⟩
end
end UP

set_option Elab.async false
set_option linter.all false
set_option maxRecDepth 100000
set_option maxHeartbeats 4000000
namespace UP
open PySem PySem.Spec PyProof.Rows L2
/-! ### the mirror of the states -/
def numR : Option Run → Int
  | none => 0
  | some r => r.2
def leavR : Option Run → Str → Int → Int
  | none, _, _ => 0
  | some r, k, c => if r.1 = k then 0 else if c < r.2 then c else r.2
def stepR : Option Run → Str → Int → Option Run
  | some r, k, c => if r.1 = k then some (k, r.2 + c) else if 0 < r.2 - c then some (r.1, r.2 - c) else if r.2 - c = 0 then none else some (k, -(r.2 - c))
  | none, k, c => some (k, c)
def withR (k : Str) (n : Int) : Option Run := if n = 0 then none else some (k, n)
def stR (rs : List Run) (st : Option Run) : Option Run := rs.foldl (fun s r => stepR s r.1 r.2) st
theorem stR_snoc (l : List Run) (r : Run) (st : Option Run) : stR (l ++ [r]) st = stepR (stR l st) r.1 r.2 := by
  unfold stR
  rw [List.foldl_append]
  rfl
section
variable {P : Program} {w : World} {K : PySem.W.Frag} {mg : Str → Option Value} {base : Heap}
/-! waiting_number: slots 0:state -/
abbrev s_waiting_number : Stmt := topS 38
theorem sc_waiting_number : FnScope ["state"] ["state"] (defScope s_waiting_number) := ⟨rfl, rfl, rfl, by decide +kernel, rfl, by decide +kernel, by decide +kernel⟩
def sp_waiting_number : Sp := fun vs H Q _ => ∃ (v : V) (st : Option Run), vs = [v] ∧ StV H v st ∧ Q (.int (numR st)) H
theorem ok_waiting_number (D : Df K mg "waiting_number" s_waiting_number) : Has P w K mg base 1 "waiting_number" ["state"] sp_waiting_number := by
  refine has_of D sc_waiting_number (fun _ _ _ _ _ _ us hl => match us, hl with | [_], _ => rfl) (fun vs H Q E h => ?_) (fun f cdv A outer s₀ H vs Q E hr h => ?_)
  · obtain ⟨a, rs, rfl, _⟩ := h
    rfl
  · obtain ⟨v, st, rfl, hv, q⟩ := h
    refine ⟨_, (pss_one (ps_ret (pe_ifExp (pt_cmpR op_isN (pv 0) pe_non (nomark _)) pe_int (pe_ix ix_tup (pv 0) pe_int (fun _ _ => rfl))))), ?_⟩
    cases st with
    | none =>
      cases hv
      exact ⟨_, rfl, rfl, _, rfl, iteP rfl q⟩
    | some r =>
      obtain ⟨t, rfl, ht⟩ := hv
      exact ⟨_, rfl, rfl, _, rfl, iteN rfl ⟨_, rfl, t, _, 1, _, rfl, rfl, .of ht, at1, q⟩⟩
end
end UP

set_option Elab.async false
set_option linter.all false
set_option maxRecDepth 100000
set_option maxHeartbeats 4000000
namespace UP
open PySem PySem.Spec PyProof.Rows L2
section
variable {X : Cx}
/-- a call that may raise, in a def that may -/
theorem pe_callXH {k : Nat} {x : Str} {ps : List Str} {sp : Sp} {W : WX} {p pos : Pos} {e : Expr} {es : List Expr} {t : TA} (G : HasX X.prog X.w X.K X.mg X.base k x ps sp) (tk : Takes X W) (hr : Room k X.A) (hg : Gl X x) (ha : PA X (e :: es) t)
    (hdb : (x == ("__debug__" : Str)) = false := by decide) (he : starEach (e :: es) X.env = (false, eval e X.env) :: starEach es X.env := by rfl) (hpl : (backTo pos (starEach es X.env)).any (·.1) = false := by rfl) :
    PE X (.Call (.Name x p) (e :: es) [] pos) (tCallS sp (WE W) t) := by
  obtain ⟨f, fd, g, kp, b, F⟩ := G
  exact pe_callS F hr hg g kp b (fun σ => passAt tk σ) ha hdb he hpl
end
section
variable {P : Program} {w : World} {K : PySem.W.Frag} {mg : Str → Option Value} {base : Heap}
end
end UP

set_option Elab.async false
set_option linter.all false
set_option maxRecDepth 100000
set_option maxHeartbeats 4000000
namespace UP
open PySem PySem.Spec PyProof.Rows L2
theorem step_other {r : Run} {k : Str} {c : Int} (h : r.1 ≠ k) : stepR (some r) k c = if 0 < r.2 - c then some (r.1, r.2 - c) else if r.2 - c = 0 then none else some (k, -(r.2 - c)) := if_neg h
def PosO (st : Option Run) : Prop := ∀ r, st = some r → 1 ≤ r.2
structure Nice (w n : Nat) (d : PyData) : Prop where
  can : d.canLay0 = true
  dep : d.depth ≤ n
  sho : d.showable = true
  lea : d.leavesShort 100 = true
  wei : d.weight ≤ w
theorem nice_none : Nice 0 0 .none := ⟨rfl, Nat.le_refl _, rfl, rfl, Nat.le_refl _⟩
theorem stepR_pos {st : Option Run} {k : Str} {c : Int} (h : PosO st) (hc : 1 ≤ c) : PosO (stepR st k c) := by
  intro r e
  cases st with
  | none =>
    cases e
    exact hc
  | some x =>
    have hx := h x rfl
    have e : (if x.1 = k then some (k, x.2 + c) else if 0 < x.2 - c then some (x.1, x.2 - c) else if x.2 - c = 0 then none else some (k, -(x.2 - c))) = some r := e
    by_cases h1 : x.1 = k
    · rw [if_pos h1] at e
      cases e
      show 1 ≤ x.2 + c
      omega
    · rw [if_neg h1] at e
      by_cases h2 : 0 < x.2 - c
      · rw [if_pos h2] at e
        cases e
        show 1 ≤ x.2 - c
        omega
      · rw [if_neg h2] at e
        by_cases h3 : x.2 - c = 0
        · rw [if_pos h3] at e
          cases e
        · rw [if_neg h3] at e
          cases e
          show 1 ≤ -(x.2 - c)
          omega
theorem nice_items {w n : Nat} : ∀ {ds : List PyData}, (∀ d ∈ ds, Nice w n d) → PyData.canLayAll0 ds = true ∧ PyData.depthAll ds ≤ n ∧ PyData.showableAll ds = true ∧ PyData.leavesShortAll 100 ds = true ∧ PyData.weightAll ds ≤ (w + 1) * ds.length
  | [], _ => ⟨rfl, Nat.zero_le _, rfl, rfl, Nat.zero_le _⟩
  | d :: t, h => by
    have h1 := h d (List.mem_cons_self ..)
    obtain ⟨a, b, c, e, f⟩ := nice_items (ds := t) fun x hx => h x (List.mem_cons_of_mem _ hx)
    refine ⟨?_, ?_, ?_, ?_, ?_⟩
    · rw [PyData.canLayAll0, h1.can, a]
      rfl
    · rw [PyData.depthAll]
      exact Nat.max_le.mpr ⟨h1.dep, b⟩
    · rw [PyData.showableAll, h1.sho, c]
      rfl
    · rw [PyData.leavesShortAll, h1.lea, e]
      rfl
    · have h2 := h1.wei
      rw [PyData.weightAll, List.length_cons, Nat.mul_succ]
      omega
theorem nice_tup {w n : Nat} {ds : List PyData} (h : ∀ d ∈ ds, Nice w n d) : Nice ((w + 1) * ds.length) (n + 1) (.tuple ds) := by
  obtain ⟨a, b, c, e, f⟩ := nice_items h
  exact ⟨by rw [PyData.canLay0]; exact a, by rw [PyData.depth]; omega, by rw [PyData.showable]; exact c, by rw [PyData.leavesShort]; exact e, by rw [PyData.weight]; exact f⟩
theorem Nice.mono {w w' n n' : Nat} {d : PyData} (h : Nice w n d) (h1 : w ≤ w') (h2 : n ≤ n') : Nice w' n' d := ⟨h.can, Nat.le_trans h.dep h2, h.sho, h.lea, Nat.le_trans h.wei h1⟩
/-- v stands for d at H and at every heap that keeps H -/
def DpS (K : PySem.W.Frag) (H : Hp) (v : V) (d : PyData) : Prop := ∀ H', Same H H' → Dp K H' v d
theorem dps_all {K : PySem.W.Frag} {H : Hp} {F : PyData → Prop} : ∀ {xs : List V}, (∀ x ∈ xs, ∃ d, DpS K H x d ∧ F d) → ∃ ds, (∀ H', Same H H' → DpAll K H' xs ds) ∧ ds.length = xs.length ∧ ∀ d ∈ ds, F d
  | [], _ => ⟨[], fun _ _ => .nil, rfl, fun d h => by cases h⟩
  | x :: t, h => by
    obtain ⟨d, h1, h2⟩ := h x (List.mem_cons_self ..)
    obtain ⟨ds, a, b, c⟩ := dps_all (xs := t) fun y hy => h y (List.mem_cons_of_mem _ hy)
    refine ⟨d :: ds, fun H' s => .cons (h1 H' s) (a H' s), congrArg Nat.succ b, fun z hz => ?_⟩
    rcases List.mem_cons.mp hz with e | e
    · rw [e]
      exact h2
    · exact c z e
theorem KindOk.str {s : Str} (h : KindOk s) : PyData.strOk s = true := by
  unfold PyData.strOk
  rw [Array.all_eq_true']
  intro c hc
  have := h.2.2 c (by simpa using hc)
  exact decide_eq_true (by omega)
def dRun (r : Run) : PyData := .tuple [.str r.1, .int r.2]
theorem depth_run (r : Run) : (dRun r).depth ≤ 2 := by
  simp [dRun, PyData.depth, PyData.depthAll]
theorem nice_str {s : Str} (h : KindOk s) : Nice 8 0 (.str s) := by
  refine ⟨?_, Nat.le_refl _, rfl, ?_, h.2.1⟩
  · rw [PyData.canLay0]
    exact h.str
  · rw [PyData.leavesShort, List.all_eq_true]
    intro c hc
    have := h.2.2 c hc
    exact decide_eq_true (by omega)
theorem nice_int {i : Int} (h : i.natAbs < 10 ^ 60) : Nice 201 0 (.int i) := by
  have h2 : i.natAbs < 2 ^ 200 := Nat.lt_of_lt_of_le h (by decide)
  have h3 : i.natAbs.log2 < 200 := by
    by_cases z : i.natAbs = 0
    · rw [z]
      decide
    · exact (Nat.log2_lt z).mpr h2
  refine ⟨by rw [PyData.canLay0], Nat.le_refl _, ?_, ?_, ?_⟩
  · rw [PyData.showable]
    exact decide_eq_true (by omega)
  · rw [PyData.leavesShort]
    refine decide_eq_true ?_
    have e := int_text_length_le10 (k := 60) (by decide) h
    show (Str.ofString (toString i)).length ≤ 100
    rw [PySem.ofString_length]
    omega
  · rw [PyData.weight]
    split <;> omega
theorem can_run {r : Run} (h : KindOk r.1) : (dRun r).canLay0 = true := by
  simp [dRun, PyData.canLay0, PyData.canLayAll0, h.str]
theorem nice_list {w n : Nat} {ds : List PyData} (h : ∀ d ∈ ds, Nice w n d) : Nice ((w + 1) * ds.length) (n + 1) (.list ds) := by
  obtain ⟨a, b, c, e, f⟩ := nice_items h
  exact ⟨by rw [PyData.canLay0]; exact a, by rw [PyData.depth]; omega, by rw [PyData.showable]; exact c, by rw [PyData.leavesShort]; exact e, by rw [PyData.weight]; exact f⟩
theorem dps_seq {K : PySem.W.Frag} {H : Hp} {a : Addr} {xs : List V} {w n : Nat} (hx : Sq2 H a xs) (h : ∀ x ∈ xs, ∃ d, DpS K H x d ∧ Nice w n d) : ∃ d, DpS K H (.ref a) d ∧ Nice ((w + 1) * xs.length) (n + 1) d := by
  obtain ⟨ds, h1, h2, h3⟩ := dps_all h
  rcases hx with z | z
  · exact ⟨.list ds, fun H' s => .lst (.of (s _ _ z)) (h1 H' s), by rw [← h2]; exact nice_list h3⟩
  · exact ⟨.tuple ds, fun H' s => .tup (.of (s _ _ z)) (h1 H' s), by rw [← h2]; exact nice_tup h3⟩
theorem dp_run {K : PySem.W.Frag} {H : Hp} {v : V} {r : Run} (h : RunV H v r) : Dp K H v (dRun r) := by
  obtain ⟨t, rfl, h⟩ := h
  exact .tup (.of h) (.cons (.str _) (.cons (.int _) .nil))
theorem shaped_run {r : Run} (h : KindOk r.1) : SeqAt.shaped (dRun r) = true := by
  unfold SeqAt.shaped
  rw [can_run h]
  have := depth_run r
  exact decide_eq_true (by omega)
theorem dps_run {K : PySem.W.Frag} {H : Hp} {v : V} {r : Run} (h : RunG H v r) (k : KindOk r.1) (c : r.2.natAbs < 10 ^ 60) : ∃ d, DpS K H v d ∧ Nice 404 1 d := by
  obtain ⟨t, rfl, h⟩ := h
  have := dps_seq (K := K) (w := 201) (n := 0) h fun x hx => by
    rcases List.mem_cons.mp hx with e | e
    · rw [e]
      exact ⟨.str r.1, fun _ _ => .str _, (nice_str k).mono (by decide) (Nat.le_refl _)⟩
    · rw [List.mem_singleton.mp e]
      exact ⟨.int r.2, fun _ _ => .int _, nice_int c⟩
  exact this
def StOk (st : Option Run) : Prop := ∀ r, st = some r → KindOk r.1 ∧ 1 ≤ r.2
theorem sb {sp : Addr} {H H' : Hp} (h : Same H H') : But sp H H' := fun b o _ e => h b o e
theorem shaped_nil : SeqAt.shaped (.list []) = true := by decide
theorem step_same {r : Run} {k : Str} {c : Int} (h : r.1 = k) : stepR (some r) k c = some (k, r.2 + c) := if_pos h
def itR (rs : List Run) : List Str := rs.flatMap fun r => List.replicate r.2.toNat r.1
theorem stR_cons (r : Run) (l : List Run) (st : Option Run) : stR (r :: l) st = stR l (stepR st r.1 r.2) := rfl
theorem step_step {s : Option Run} {k : Str} {c : Int} (h : PosO s) (hc : 1 ≤ c) : stepR (stepR s k 1) k c = stepR s k (1 + c) := by
  cases s with
  | none => exact step_same (r := (k, 1)) rfl
  | some r =>
    have r1 := h r rfl
    by_cases e : r.1 = k
    · rw [step_same e, step_same e, step_same (r := (k, r.2 + 1)) rfl]
      show some (k, r.2 + 1 + c) = _
      rw [Int.add_assoc]
    · rw [step_other e, step_other e]
      by_cases h1 : 0 < r.2 - 1
      · rw [if_pos h1, step_other (r := (r.1, r.2 - 1)) e]
        show (if 0 < r.2 - 1 - c then some (r.1, r.2 - 1 - c) else if r.2 - 1 - c = 0 then none else some (k, -(r.2 - 1 - c))) = _
        rw [show r.2 - 1 - c = r.2 - (1 + c) by omega]
      · have e2 : r.2 - 1 = 0 := by omega
        rw [if_neg h1, if_pos e2, if_neg (by omega), if_neg (by omega)]
        show some (k, c) = _
        rw [show -(r.2 - (1 + c)) = c by omega]
theorem len_it : ∀ (rs : List Run), (∀ r ∈ rs, 1 ≤ r.2) → ((itR rs).length : Int) = lenR rs
  | [], _ => rfl
  | r :: t, k => by
    have c1 := k r (List.mem_cons_self ..)
    have ih := len_it t fun x hx => k x (List.mem_cons_of_mem _ hx)
    have e2 : itR (r :: t) = List.replicate r.2.toNat r.1 ++ itR t := rfl
    rw [e2, List.length_append, List.length_replicate, lenR_cons]
    omega
end UP

set_option Elab.async false
set_option linter.all false
set_option maxRecDepth 100000
set_option maxHeartbeats 4000000
namespace UP
open PySem PySem.Spec PyProof.Rows L2
/-! ### the reel: a list of two lists of ints and two ints -/
def Reel (H : Hp) (p : Addr) : Prop := ∃ (g c : Addr) (gs cs : List Int) (n s : Int), H p = some (.lst [.ref g, .ref c, .int n, .int s]) ∧ H g = some (.lst (gs.map V.int)) ∧ H c = some (.lst (cs.map V.int)) ∧ gs.length ≤ 63 ∧ (∀ x ∈ gs, 0 ≤ x) ∧ 0 < cs.length ∧ cs.length ≤ 64 ∧ 0 ≤ n ∧ 0 ≤ s ∧ s < 170141183460469231731687303715884105727
def Off (H : Hp) (p D : Addr) : Prop := ∃ (g c : Addr) (n s : Int), H p = some (.lst [.ref g, .ref c, .int n, .int s]) ∧ D ≠ p ∧ D ≠ g ∧ D ≠ c
theorem not_ints {g c : Addr} {n s : Int} {l : List Int} : (HO.lst [.ref g, .ref c, .int n, .int s]) ≠ .lst (l.map V.int) := by
  intro h
  have h := HO.lst.inj h
  cases l with
  | nil => cases h
  | cons x t => cases h
theorem Reel.off {H : Hp} {p D : Addr} (z : Reel H p) (n : H D = none) : Off H p D := by
  obtain ⟨g, c, gs, cs, i, s, hp, hg, hc, _⟩ := z
  exact ⟨g, c, i, s, hp, fun e => by (rw [e, hp] at n; cases n), fun e => by (rw [e, hg] at n; cases n), fun e => by (rw [e, hc] at n; cases n)⟩
theorem Reel.ne {H : Hp} {p D : Addr} (z : Reel H p) (n : H D = none) : D ≠ p := by
  obtain ⟨_, _, _, _, _, h, _⟩ := z.off n
  exact h
theorem Off.ne {H : Hp} {p D : Addr} (z : Off H p D) : D ≠ p := by
  obtain ⟨_, _, _, _, _, h, _⟩ := z
  exact h
theorem Reel.same {H H' : Hp} {p : Addr} (z : Reel H p) (s : Same H H') : Reel H' p := by
  obtain ⟨g, c, gs, cs, i, t, hp, hg, hc, r⟩ := z
  exact ⟨g, c, gs, cs, i, t, s _ _ hp, s _ _ hg, s _ _ hc, r⟩
theorem Off.same {H H' : Hp} {p D : Addr} (z : Off H p D) (s : Same H H') : Off H' p D := by
  obtain ⟨g, c, i, t, hp, r⟩ := z
  exact ⟨g, c, i, t, s _ _ hp, r⟩
theorem Off.upd {H : Hp} {p D D' : Addr} {o : HO} (z : Off H p D) (n : D' ≠ p) : Off (upd H D' o) p D := by
  obtain ⟨g, c, i, t, hp, r⟩ := z
  exact ⟨g, c, i, t, by rw [upd_ne n.symm]; exact hp, r⟩
theorem Reel.upd {H : Hp} {p D : Addr} {x : HO} (z : Reel H p) (o : Off H p D) : Reel (upd H D x) p := by
  obtain ⟨g, c, gs, cs, i, t, hp, hg, hc, r⟩ := z
  obtain ⟨g', c', i', t', hp', n1, n2, n3⟩ := o
  rw [hp] at hp'
  cases hp'
  exact ⟨g, c, gs, cs, i, t, by rw [upd_ne n1.symm]; exact hp, by rw [upd_ne n2.symm]; exact hg, by rw [upd_ne n3.symm]; exact hc, r⟩
/-- all but the reel stays, and what was not of the reel is not of it -/
structure RB (p : Addr) (H H' : Hp) : Prop where
  but : But p H H'
  off : ∀ D o, H D = some o → Off H p D → Off H' p D
theorem RB.refl {p : Addr} {H : Hp} : RB p H H := ⟨But.refl, fun _ _ _ h => h⟩
theorem RB.trans {p : Addr} {H H1 H2 : Hp} (a : RB p H H1) (b : RB p H1 H2) : RB p H H2 := ⟨a.but.trans b.but, fun D o e h => b.off D o (a.but D o h.ne e) (a.off D o e h)⟩
theorem RB.of {p : Addr} {H H' : Hp} (s : Same H H') : RB p H H' := ⟨sb s, fun _ _ _ h => h.same s⟩
theorem RB.free {p q : Addr} {H H' : Hp} (b : RB p H H') (z : Reel H' p) (h : H' q = none) : H q = none := by
  by_cases e : q = p
  · exact absurd e (z.ne h)
  · cases r : H q with
    | none => rfl
    | some o =>
      rw [b.but q o e r] at h
      cases h
theorem RB.grow {p D : Addr} {H H' : Hp} {x : HO} (b : RB p H H') (n : H D = none) (o : Off H' p D) : RB p H (L2.upd H' D x) := ⟨fun q r e h => by
    rw [upd_ne (ne_of_none h n)]
    exact b.but q r e h, fun E r h k => (b.off E r h k).upd o.ne⟩
theorem RB.run {p : Addr} {H H' : Hp} {v : V} {r : Run} (b : RB p H H') (z : Reel H p) (h : RunV H v r) : RunV H' v r := by
  obtain ⟨t, e, h⟩ := h
  obtain ⟨_, _, _, _, _, _, hp, _⟩ := z
  exact ⟨t, e, b.but _ _ (ne_of h hp (by intro q; cases q)) h⟩
theorem RB.st {p : Addr} {H H' : Hp} {v : V} {st : Option Run} (b : RB p H H') (z : Reel H p) (h : StV H v st) : StV H' v st := by
  cases st with
  | none => exact h
  | some r => exact b.run z h
theorem RB.strs {p a : Addr} {H H' : Hp} {ks : List Str} (b : RB p H H') (z : Reel H p) (h : H a = some (.lst (ks.map V.str))) : H' a = some (.lst (ks.map V.str)) := by
  obtain ⟨_, _, _, _, _, _, hp, _⟩ := z
  refine b.but _ _ (ne_of h hp fun q => ?_) h
  have q := HO.lst.inj q
  cases ks with
  | nil => cases q
  | cons x t => cases q
theorem RB.tup {p a : Addr} {H H' : Hp} {xs : List V} (b : RB p H H') (z : Reel H p) (h : H a = some (.tup xs)) : H' a = some (.tup xs) := by
  obtain ⟨_, _, _, _, _, _, hp, _⟩ := z
  exact b.but _ _ (ne_of h hp (by intro q; cases q)) h
/-! ### lists of ints -/
theorem dp_intl {K : PySem.W.Frag} {H : Hp} : ∀ (l : List Int), DpAll K H (l.map V.int) (l.map PyData.int)
  | [] => .nil
  | x :: t => .cons (.int x) (dp_intl t)
theorem can_intl : ∀ (l : List Int), PyData.canLayAll0 (l.map PyData.int) = true
  | [] => by simp [PyData.canLayAll0]
  | x :: t => by
    rw [List.map_cons, PyData.canLayAll0, can_intl t]
    simp [PyData.canLay0]
theorem depth_intl : ∀ (l : List Int), PyData.depthAll (l.map PyData.int) ≤ 1
  | [] => by simp [PyData.depthAll]
  | x :: t => by
    rw [List.map_cons, PyData.depthAll]
    exact Nat.max_le.mpr ⟨by simp [PyData.depth], depth_intl t⟩
theorem shaped_intl (l : List Int) : SeqAt.shaped (.list (l.map PyData.int)) = true := by
  unfold SeqAt.shaped
  rw [PyData.canLay0, can_intl l, PyData.depth]
  have := depth_intl l
  exact decide_eq_true (by omega)
theorem eqv_nilI (l : List Int) : PyData.eqv (.list (l.map PyData.int)) (.list []) = l.isEmpty := by
  cases l with
  | nil => simp [PyData.eqv, PyData.eqvAll]
  | cons r t => simp [PyData.eqv, PyData.eqvAll]
theorem cut_dropR (xs : List V) (r : Int) (h0 : 0 ≤ r) (h1 : r ≤ xs.length) : cutV xs (some r) none = xs.drop r.toNat := by
  have e : HT.sIx xs.length 0 (some r) = r.toNat := by
    have := HT.sIx_nat xs.length 0 r.toNat
    rw [show ((r.toNat : Nat) : Int) = r by omega] at this
    omega
  unfold cutV
  rw [e, HT.sIx_none, List.take_of_length_le (by rw [List.length_drop]; exact Nat.le_refl _)]
theorem atI_ofR {α : Type} {l : List α} {i : Int} {x : α} (h0 : 0 ≤ i) (h : l[i.toNat]? = some x) : atI l i = some x := by
  have e : i = (i.toNat : Int) := by omega
  rw [e]
  exact atI_nat h
theorem at40 {α : Type} {x y z u : α} : atI [x, y, z, u] 0 = some x := rfl
theorem at41 {α : Type} {x y z u : α} : atI [x, y, z, u] 1 = some y := rfl
theorem at42 {α : Type} {x y z u : α} : atI [x, y, z, u] 2 = some z := rfl
theorem at43 {α : Type} {x y z u : α} : atI [x, y, z, u] 3 = some u := rfl
section
variable {P : Program} {w : World} {K : PySem.W.Frag} {mg : Str → Option Value} {base : Heap}
/-! _law_draw: slots 0:reel 1:many 2:extra 3:stir 4:rest -/
abbrev s_law_draw : Stmt := topS 57
theorem sc_law_draw : FnScope ["reel", "many", "extra", "stir", "rest"] ["reel", "many"] (defScope s_law_draw) := ⟨rfl, rfl, rfl, by decide +kernel, rfl, by decide +kernel, by decide +kernel⟩
def sp_law_draw : Sp := fun vs H Q _ => ∃ (p : Addr) (m : Int), vs = [.ref p, .int m] ∧ Reel H p ∧ 1 ≤ m ∧ m.natAbs < 2 ^ 8000 ∧ ∀ H' r, RB p H H' → Reel H' p → 0 ≤ r → r < m → Q (.int r) H'
theorem p127 : (2 : Int) ^ ((64 : Int).toNat) * 2 ^ ((63 : Int).toNat) - 1 = 170141183460469231731687303715884105727 := by decide +kernel
theorem ok_law_draw (D : Df K mg "_law_draw" s_law_draw) (T : Tx mg) : Has P w K mg base 1 "_law_draw" ["reel", "many"] sp_law_draw := by
  refine has_of D sc_law_draw (fun _ _ _ _ _ _ us hl => match us, hl with | [_, _], _ => rfl) (fun vs H Q E h => ?_) (fun f cdv A outer s₀ H vs Q E hr h => ?_)
  · obtain ⟨a, rs, rfl, _⟩ := h
    rfl
  · obtain ⟨p, m, rfl, z, m1, m2, q⟩ := h
    have z0 := z
    obtain ⟨g, c, gs, cs, n, s, hp, hg, hc, lg, g0, lc, lc2, n0, s0, s1⟩ := z
    refine ⟨_, (pss_cons (ps_if (pt_cmpR (op_neD hr.units) (pe_ix ix_list (pv 0) pe_int (fun _ _ => rfl)) (pe_lst pa_nil) (nomark _)) (pss_cons (ps_set (i := 4) sc_law_draw.nd rfl (by first | exact Or.inl rfl | exact Or.inr rfl) (pe_ix ix_list (pe_ix ix_list (pv 0) pe_int (fun _ _ => rfl)) pe_int (fun _ _ => rfl)))
    (pss_cons (ps_asg (pe_op op_cat (pe_op op_rep (pe_lst (pa_cons (pe_op op_fdivW (pv 4) (pv 1)) pa_nil)) (pe_callTy call_int1 (by rfl) T.n_int (by decide +kernel) (pa_cons (pe_cmpR op_ge (pv 4) (pv 1) (nomark _)) pa_nil))) (pe_slice sl_list (pe_ix ix_list (pv 0) pe_int (fun _ _ => rfl)) (po_some pe_int) po_none)) (pg_sub (pv 0) pe_int set_list))
    (pss_one (ps_ret (pe_op op_mod (pv 4) (pv 1)))))) pss_nil)
    (pss_cons (ps_asg (pe_op op_add (pe_ix ix_list (pv 0) pe_int (fun _ _ => rfl)) pe_int) (pg_sub (pv 0) pe_int set_list))
    (pss_cons (ps_set (i := 2) sc_law_draw.nd rfl (by first | exact Or.inl rfl | exact Or.inr rfl) (pe_ix ix_list (pe_ix ix_list (pv 0) pe_int (fun _ _ => rfl)) (pe_op op_mod (pe_ix ix_list (pv 0) pe_int (fun _ _ => rfl)) (pe_callB call_len_seq (by rfl) T.n_len (by decide +kernel) (pa_cons (pe_ix ix_list (pv 0) pe_int (fun _ _ => rfl)) pa_nil))) (fun _ _ => rfl)))
    (pss_cons (ps_set (i := 3) sc_law_draw.nd rfl (by first | exact Or.inl rfl | exact Or.inr rfl) (pe_op op_add (pe_op op_add (pe_op op_mulW (pe_ix ix_list (pv 0) pe_int (fun _ _ => rfl)) (pe_ix ix_list (pv 0) pe_int (fun _ _ => rfl))) (pe_op op_mul (pe_op op_add (pv 2) pe_int) pe_int)) (pe_op op_mul (pe_ix ix_list (pv 0) pe_int (fun _ _ => rfl)) pe_int)))
    (pss_cons (ps_asg (pe_op op_mod (pv 3) (pe_op op_sub (pe_op op_mul (pe_op op_pow pe_int pe_int) (pe_op op_pow pe_int pe_int)) pe_int)) (pg_sub (pv 0) pe_int set_list))
    (pss_one (ps_ret (pe_op op_mod (pe_op op_fdivW (pe_ix ix_list (pv 0) pe_int (fun _ _ => rfl)) (pe_op op_pow pe_int pe_int)) (pv 1))))))))), ?_⟩
    refine ⟨_, rfl, p, _, 0, _, rfl, rfl, .of hp, at40, Nat.zero_le _, fun e ne => ?_⟩
    have se := same_upd (o := .lst []) ne
    refine ⟨.list (gs.map PyData.int), .list [], .lst (.of (se _ _ hg)) (dp_intl gs), .lst (.of upd_same) .nil, shaped_intl gs, shaped_nil, _, rfl, ?_⟩
    rw [eqv_nilI]
    replace hp := se _ _ hp
    replace hg := se _ _ hg
    replace hc := se _ _ hc
    have z1 := z0.same se
    generalize L2.upd H e (.lst []) = H1 at *
    cases gs with
    | cons x t =>
      refine iteP rfl ?_
      have x0 := g0 x (List.mem_cons_self ..)
      refine ⟨_, rfl, p, _, 0, _, rfl, rfl, .of hp, at40, g, _, 0, _, rfl, rfl, .of hg, atI_ofR (Int.le_refl _) rfl, ?_⟩
      refine ⟨_, rfl, _, rfl, _, _, rfl, rfl, wide_div (by omega) m2 (by decide) (by decide), (by show 1 ≤ sizeLine; decide), fun l1 n1 => ?_⟩
      have u1 := same_upd (o := .lst [.int (x / m)]) n1
      refine ⟨_, rfl, _, rfl, _, _, rfl, rfl, .inr ⟨_, rfl, l1, _, _, rfl, rfl, upd_same, ?_⟩⟩
      have hk : ∃ k : Nat, k ≤ 1 ∧ (if decide (m ≤ x) = true then (1 : Int) else 0) = (k : Int) := by
        by_cases y : m ≤ x
        · exact ⟨1, Nat.le_refl _, by rw [decide_eq_true y]; rfl⟩
        · exact ⟨0, Nat.zero_le _, by rw [decide_eq_false y]; rfl⟩
      obtain ⟨k, k1, ek⟩ := hk
      rw [show (if decide (x ≥ m) = true then (1 : Int) else 0) = (k : Int) from ek]
      refine ⟨by omega, by omega, ?_, fun l2 n2 => ?_⟩
      · rw [Int.toNat_natCast]
        show 1 * k ≤ sizeLine
        exact Nat.le_of_lt (small (by omega))
      rw [Int.toNat_natCast, show (List.replicate k [V.int (x / m)]).flatten = (List.replicate k (x / m)).map V.int by rw [List.map_replicate, List.flatten_replicate_singleton]]
      have u2 := same_upd (o := .lst ((List.replicate k (x / m)).map V.int)) n2
      refine ⟨_, rfl, p, _, 0, _, rfl, rfl, .of (u2 _ _ (u1 _ _ hp)), at40, _, rfl, g, _, rfl, SqL.of (u2 _ _ (u1 _ _ hg)), fun l3 n3 => ?_⟩
      rw [cut_dropR _ 1 (by omega) (by rw [List.length_map, List.length_cons]; omega), show ((x :: t).map V.int).drop (1 : Int).toNat = t.map V.int from rfl]
      have u3 := same_upd (o := .lst (t.map V.int)) n3
      refine ⟨l2, l3, _, _, rfl, rfl, u3 _ _ upd_same, upd_same, ?_, fun l4 n4 => ?_⟩
      · rw [List.length_map, List.length_map, List.length_replicate]
        rw [List.length_cons] at lg
        exact Nat.le_of_lt (small (by omega))
      have u4 := same_upd (o := .lst ((List.replicate k (x / m)).map V.int ++ t.map V.int)) n4
      have sA := u1.trans (u2.trans (u3.trans u4))
      refine ⟨_, rfl, p, _, 0, 0, rfl, rfl, sA _ _ hp, rfl, ?_⟩
      refine ⟨_, rfl, _, rfl, _, _, rfl, rfl, (by omega), ?_⟩
      have n4p : l4 ≠ p := (ne_of_none ((u1.trans (u2.trans u3)) _ _ hp) n4).symm
      refine q _ _ ⟨fun b o nb eb => ?_, fun D o eD oD => ?_⟩ ⟨l4, c, List.replicate k (x / m) ++ t, cs, n, s, upd_same, ?_, ?_, ?_, ?_, lc, lc2, n0, s0, s1⟩ (Int.emod_nonneg _ (by omega)) (Int.emod_lt_of_pos _ (by omega))
      · rw [upd_ne nb]
        exact sA _ _ (se _ _ eb)
      · obtain ⟨g', c', i', t', hp', e1, e2, e3⟩ := oD.same se
        rw [hp] at hp'
        cases hp'
        refine ⟨l4, c, n, s, upd_same, e1, ?_, e3⟩
        exact ne_of_none ((u1.trans (u2.trans u3)) _ _ (se _ _ eD)) n4
      · rw [upd_ne n4p, upd_same, List.map_append]
      · rw [upd_ne (ne_of hc hp (fun q => not_ints q.symm))]
        exact sA _ _ hc
      · rw [List.length_append, List.length_replicate]
        rw [List.length_cons] at lg
        omega
      · intro y hy
        rcases List.mem_append.mp hy with h | h
        · rw [List.eq_of_mem_replicate h]
          exact Int.ediv_nonneg x0 (by omega)
        · exact g0 y (List.mem_cons_of_mem _ h)
    | nil =>
      refine iteN rfl ?_
      refine ⟨_, rfl, p, _, 2, _, rfl, rfl, .of hp, at42, _, _, rfl, rfl, ?_⟩
      refine ⟨_, rfl, p, _, 2, 2, rfl, rfl, hp, rfl, ?_⟩
      have np : c ≠ p := ne_of hc hp (fun q => not_ints q.symm)
      have h2 : (L2.upd H1 p (.lst [.ref g, .ref c, .int (n + 1), .int s])) p = some (.lst [.ref g, .ref c, .int (n + 1), .int s]) := upd_same
      have hc2 : (L2.upd H1 p (.lst [.ref g, .ref c, .int (n + 1), .int s])) c = some (.lst (cs.map V.int)) := by rw [upd_ne np]; exact hc
      have ix0 := Int.emod_nonneg (n + 1) (b := (cs.length : Int)) (by omega)
      have ix1 := Int.emod_lt_of_pos (n + 1) (b := (cs.length : Int)) (by omega)
      obtain ⟨x, hx⟩ : ∃ x, cs[((n + 1) % (cs.length : Int)).toNat]? = some x := ⟨_, List.getElem?_eq_getElem (by omega)⟩
      have hx2 : (cs.map V.int)[((n + 1) % (cs.length : Int)).toNat]? = some (.int x) := by rw [List.getElem?_map, hx]; rfl
      refine ⟨_, rfl, p, _, 1, _, rfl, rfl, .of h2, at41, _, rfl, p, _, 2, _, rfl, rfl, .of h2, at42, _, rfl, p, _, 1, _, rfl, rfl, .of h2, at41, c, _, rfl, .inl (.of hc2), ?_⟩
      rw [List.length_map]
      refine ⟨_, _, rfl, rfl, (by omega), c, _, _, _, rfl, rfl, .of hc2, atI_ofR ix0 hx2, ?_⟩
      refine ⟨_, rfl, p, _, 3, _, rfl, rfl, .of h2, at43, _, rfl, p, _, 3, _, rfl, rfl, .of h2, at43, _, _, rfl, rfl, wide_mul (a := 127) (b := 127) (by omega) (by omega) (by decide) (by decide) (by decide), _, rfl, _, _, rfl, rfl, _, _, rfl, rfl, .inr ⟨by decide, by decide⟩, _, _, rfl, rfl, _, rfl, p, _, 2, _, rfl, rfl, .of h2, at42, _, _, rfl, rfl, .inr ⟨by decide, by decide⟩, _, _, rfl, rfl, ?_⟩
      refine ⟨_, rfl, _, _, rfl, rfl, ⟨by decide, by decide, by decide⟩, _, _, rfl, rfl, ⟨by decide, by decide, by decide⟩, _, _, rfl, rfl, .inr ⟨by decide +kernel, by decide +kernel⟩, _, _, rfl, rfl, _, _, rfl, rfl, ?_, ?_⟩
      · rw [p127]
        show (0 : Int) < 170141183460469231731687303715884105727
        decide
      rw [p127]
      refine ⟨_, rfl, p, _, 3, 3, rfl, rfl, h2, rfl, ?_⟩
      have h3 : ∀ y : Int, (L2.upd (L2.upd H1 p (.lst [.ref g, .ref c, .int (n + 1), .int s])) p (.lst [.ref g, .ref c, .int (n + 1), .int y])) p = some (.lst [.ref g, .ref c, .int (n + 1), .int y]) := fun y => upd_same
      refine ⟨_, rfl, p, _, 3, _, rfl, rfl, .of (h3 _), at43, _, _, rfl, rfl, ⟨by decide, by decide, by decide⟩, _, _, rfl, rfl, wide_div (b := 64) (by decide) (by decide) (by decide) (by decide), _, rfl, _, _, rfl, rfl, (by omega), ?_⟩
      have ng : g ≠ p := ne_of hg hp (fun q => not_ints (l := []) q.symm)
      refine q _ _ ⟨fun b o nb eb => ?_, fun D o eD oD => ?_⟩ ⟨g, c, [], cs, n + 1, _, h3 _, ?_, ?_, Nat.zero_le _, (fun y h => by cases h), lc, lc2, by omega, Int.emod_nonneg _ (by decide), Int.emod_lt_of_pos _ (by decide)⟩ (Int.emod_nonneg _ (by omega)) (Int.emod_lt_of_pos _ (by omega))
      · rw [upd_ne nb, upd_ne nb]
        exact se _ _ eb
      · obtain ⟨g', c', i', t', hp', e1, e2, e3⟩ := oD.same se
        rw [hp] at hp'
        cases hp'
        exact ⟨g, c, _, _, h3 _, e1, e2, e3⟩
      · rw [upd_ne ng, upd_ne ng]
        exact hg
      · rw [upd_ne np, upd_ne np]
        exact hc
end
end UP

set_option Elab.async false
set_option linter.all false
set_option maxRecDepth 100000
set_option maxHeartbeats 4000000
namespace UP
open PySem PySem.Spec PyProof.Rows L2
theorem SqL.sameR {K : PySem.W.Frag} {H H' : Hp} {a : Addr} {xs : List V} (h : SqL K H a xs) (s : Same H H') : SqL K H' a xs := h.elim (fun z => .inl (z.elim (fun y => .inl (s _ _ y)) (fun ⟨o, y⟩ => .inr ⟨o, s _ _ y⟩))) (fun z => .inr z)
theorem erase_permR {α : Type} : ∀ (l : List α) (i : Nat) (h : i < l.length), (l[i] :: l.eraseIdx i).Perm l
  | [], i, h => absurd h (Nat.not_lt_zero _)
  | x :: t, 0, _ => List.Perm.refl _
  | x :: t, i + 1, h => by
    have h' : i < t.length := Nat.lt_of_succ_lt_succ h
    show (t[i] :: x :: t.eraseIdx i).Perm (x :: t)
    exact (List.Perm.swap x _ _).trans ((erase_permR t i h').cons x)
theorem cut63 (ns : List Int) : ∃ ms : List Int, cutV (ns.map V.int) none (some 63) = ms.map V.int ∧ ms.length ≤ 63 := by
  refine ⟨_, by unfold cutV; rw [← List.map_drop, ← List.map_take], ?_⟩
  rw [List.length_take, List.length_drop]
  have : HT.sIx (ns.map V.int).length (ns.map V.int).length (some 63) ≤ 63 := by
    have := HT.sIx_nat (ns.map V.int).length (ns.map V.int).length 63
    have e : HT.sIx (ns.map V.int).length (ns.map V.int).length (some 63) = HT.sIx (ns.map V.int).length (ns.map V.int).length (some ((63 : Nat) : Int)) := rfl
    rw [e, this]
    exact Nat.min_le_left ..
  omega
theorem int_at {ms : List Int} {i : Nat} {x : V} (h : (ms.map V.int)[i]? = some x) : ∃ n, x = .int n := by
  rw [List.getElem?_map] at h
  cases e : ms[i]? with
  | none =>
    rw [e] at h
    cases h
  | some n =>
    rw [e] at h
    exact ⟨n, (Option.some.inj h).symm⟩
section
variable {P : Program} {w : World} {K : PySem.W.Frag} {mg : Str → Option Value} {base : Heap}
/-! _law_reel: slots 0:script 1:stir 2:cell 3:great -/
abbrev s_law_reel : Stmt := topS 56
theorem sc_law_reel : FnScope ["script", "stir", "cell", "great"] ["script"] (defScope s_law_reel) := ⟨rfl, rfl, rfl, by decide +kernel, rfl, by decide +kernel, by decide +kernel⟩
def sp_law_reel (K : PySem.W.Frag) : Sp := fun vs H Q _ => ∃ (a : Addr) (ns : List Int), vs = [.ref a] ∧ SqL K H a (ns.map V.int) ∧ ∀ H' p, Same H H' → H p = none → Reel H' p → Q (.ref p) H'
theorem ok_law_reel (D : Df K mg "_law_reel" s_law_reel) (T : Tx mg) : Has P w K mg base 1 "_law_reel" ["script"] (sp_law_reel K) := by
  refine has_of D sc_law_reel (fun _ _ _ _ _ _ us hl => match us, hl with | [_], _ => rfl) (fun vs H Q E h => ?_) (fun f cdv A outer s₀ H vs Q E hr h => ?_)
  · obtain ⟨a, rs, rfl, _⟩ := h
    rfl
  · obtain ⟨a, ns, rfl, hS, q⟩ := h
    obtain ⟨ms, em, lm⟩ := cut63 ns
    refine ⟨_, (pss_cons (ps_set (i := 1) sc_law_reel.nd rfl (by first | exact Or.inl rfl | exact Or.inr rfl) (pe_op op_pow pe_int pe_int))
    (pss_cons (ps_for PassesOwn.never rfl (pi_list (pe_slice sl_list (pv 0) po_none (po_some pe_int))) (pg_name (i := 2) sc_law_reel.nd rfl (by first | exact Or.inl rfl | exact Or.inr rfl))
      (pss_one (ps_set (i := 1) sc_law_reel.nd rfl (by first | exact Or.inl rfl | exact Or.inr rfl) (pe_op op_mod (pe_op op_add (pe_op op_add (pe_op op_mulW (pv 1) (pv 1)) (pe_op op_mod (pv 2) pe_int)) pe_int) (pe_op op_sub (pe_op op_mul (pe_op op_pow pe_int pe_int) (pe_op op_pow pe_int pe_int)) pe_int)))))
    (pss_cons (ps_setLc (i := 3) (own := [("cell", 2)]) rfl sc_law_reel.nd rfl rfl (sw_true rfl rfl rfl (by decide +kernel)) (pi_list (pe_slice sl_list (pv 0) po_none (po_some pe_int))) (blkOk_by (N := ["script", "stir", "cell", "great"]) (sc := defScope s_law_reel) (by decide +kernel)) (fun _ _ _ _ _ => (pg_name (i := 2) sc_law_reel.nd rfl (by first | exact Or.inl rfl | exact Or.inr rfl))) (fun _ _ _ _ _ => pts_one (pt_cmpR op_ge (pv 2) (pe_op op_pow pe_int pe_int) (nomark _))) (fun _ _ _ _ _ => (pe_op op_sub (pv 2) (pe_op op_pow pe_int pe_int))))
    (pss_one (ps_ret (pe_lst (pa_cons (pv 3) (pa_cons (pe_op op_cat (pe_lc (own := [("cell", 2)]) rfl sc_law_reel.nd (pi_list (pe_slice sl_list (pv 0) po_none (po_some pe_int))) (blkOk_by (N := ["script", "stir", "cell", "great"]) (sc := defScope s_law_reel) (by decide +kernel)) (fun _ _ _ _ _ => (pg_name (i := 2) sc_law_reel.nd rfl (by first | exact Or.inl rfl | exact Or.inr rfl))) (fun _ _ _ _ _ => pts_nil) (fun _ _ _ _ _ => (pe_op op_mod (pv 2) pe_int))) (pe_lst (pa_cons pe_int pa_nil))) (pa_cons pe_int (pa_cons (pv 1) pa_nil)))))))))), ?_⟩
    refine ⟨_, _, rfl, rfl, ⟨by decide, by decide, by decide⟩, ?_⟩
    refine ⟨_, rfl, _, rfl, a, _, rfl, hS, fun c nc => ?_⟩
    rw [em]
    have sc : Same H (upd H c (.lst (ms.map V.int))) := same_upd nc
    refine ⟨c, rfl, ⟨_, .of upd_same⟩, for_list (K := K) (a := c) (xs := ms.map V.int) (fun i σ H' => ∃ s y2, σ = [some (.ref a), some (.int s), y2, none] ∧ H' = upd H c (.lst (ms.map V.int)) ∧ 0 ≤ s ∧ s < 170141183460469231731687303715884105727)
      ⟨_, none, rfl, rfl, by decide +kernel, by decide +kernel⟩ (fun i σ H' _ hP => ?_) (fun i x σ H4 ex hP => ?_) (fun σ H4 hP => ?_)⟩
    · obtain ⟨_, _, _, rfl, _⟩ := hP
      exact .of upd_same
    · obtain ⟨s, y2, rfl, rfl, s0, s1⟩ := hP
      obtain ⟨n, rfl⟩ := int_at ex
      refine ⟨_, rfl, _, rfl, _, _, rfl, rfl, wide_mul (a := 127) (b := 127) (by omega) (by omega) (by decide) (by decide) (by decide), _, rfl, _, _, rfl, rfl, (by show (0 : Int) < 1000000000000000003; decide), _, _, rfl, rfl, _, _, rfl, rfl, _, _, rfl, rfl, ⟨by decide, by decide, by decide⟩, _, _, rfl, rfl, ⟨by decide, by decide, by decide⟩, _, _, rfl, rfl, .inr ⟨by decide +kernel, by decide +kernel⟩, _, _, rfl, rfl, _, _, rfl, rfl, ?_, ?_⟩
      · rw [p127]
        show (0 : Int) < 170141183460469231731687303715884105727
        decide
      rw [p127]
      exact ⟨_, _, rfl, rfl, Int.emod_nonneg _ (by decide), Int.emod_lt_of_pos _ (by decide)⟩
    · obtain ⟨s, y2, rfl, rfl, s0, s1⟩ := hP
      generalize upd H c (.lst (ms.map V.int)) = H1 at *
      refine ⟨_, rfl, _, rfl, a, _, rfl, SqL.sameR hS sc, fun c2 nc2 => ?_⟩
      rw [em]
      have sc2 : Same H1 (upd H1 c2 (.lst (ms.map V.int))) := same_upd nc2
      refine ⟨c2, rfl, ⟨_, .of upd_same⟩, fun L nL => lc_list (K := K) (a := c2) (xs := ms.map V.int) (fun i H' => Same (upd H1 c2 (.lst (ms.map V.int))) H' ∧ ∃ gs : List Int, H' L = some (.lst (gs.map V.int)) ∧ gs.length ≤ i ∧ ∀ x ∈ gs, 0 ≤ x)
        ⟨same_upd nL, [], upd_same, Nat.le_refl _, fun x h => by cases h⟩ (fun i H' _ p => .of (p.1 _ _ upd_same)) (fun i x H5 ex hP => ?_) (fun H5 hP => ?_)⟩
      · obtain ⟨s5, gs, hL, lg, g0⟩ := hP
        have hi : i < ms.length := by
          have := (List.getElem?_eq_some_iff.mp ex).1
          rw [List.length_map] at this
          exact this
        obtain ⟨n, rfl⟩ := int_at ex
        refine ⟨rfl, _, rfl, _, _, rfl, rfl, ⟨by decide, by decide, by decide⟩, _, _, rfl, rfl, _, rfl, ite2 (fun e => ?_) (fun e => ?_)⟩
        · have e : (10 : Int) ^ ((18 : Int).toNat) ≤ n := of_decide_eq_true e
          refine ⟨_, rfl, _, _, rfl, rfl, ⟨by decide, by decide, by decide⟩, _, _, rfl, rfl, _, hL, ?_, same_grow nL s5, gs ++ [n - (10 : Int) ^ ((18 : Int).toNat)], ?_, ?_, ?_⟩
          · rw [List.length_map]
            exact small (by omega)
          · rw [upd_same, List.map_append]
            rfl
          · rw [List.length_append]
            show gs.length + 1 ≤ i + 1
            omega
          · intro x hx
            rcases List.mem_append.mp hx with h | h
            · exact g0 x h
            · rw [List.mem_singleton.mp h]
              omega
        · exact ⟨s5, gs, hL, by omega, g0⟩
      · obtain ⟨s5, gs, hL, lg, g0⟩ := hP
        rw [List.length_map] at lg
        refine ⟨_, rfl, ?_⟩
        have sB : Same H1 H5 := sc2.trans s5
        refine ⟨_, rfl, _, rfl, a, _, rfl, SqL.sameR (SqL.sameR hS sc) sB, fun c3 nc3 => ?_⟩
        rw [em]
        have sc3 : Same H5 (upd H5 c3 (.lst (ms.map V.int))) := same_upd nc3
        refine ⟨c3, rfl, ⟨_, .of upd_same⟩, fun M nM => lc_list (K := K) (a := c3) (xs := ms.map V.int) (fun i H' => Same (upd H5 c3 (.lst (ms.map V.int))) H' ∧ ∃ cs : List Int, H' M = some (.lst (cs.map V.int)) ∧ cs.length = i)
          ⟨same_upd nM, [], upd_same, rfl⟩ (fun i H' _ p => .of (p.1 _ _ upd_same)) (fun i x H6 ex hP => ?_) (fun H6 hP => ?_)⟩
        · obtain ⟨s6, cs, hM, lc⟩ := hP
          have hi : i < ms.length := by
            have := (List.getElem?_eq_some_iff.mp ex).1
            rw [List.length_map] at this
            exact this
          obtain ⟨n, rfl⟩ := int_at ex
          refine ⟨rfl, yesT ⟨_, rfl, _, _, rfl, rfl, (by show (0 : Int) < 1000003; decide), _, hM, ?_, same_grow nM s6, cs ++ [n % 1000003], ?_, ?_⟩⟩
          · rw [List.length_map]
            exact small (by omega)
          · rw [upd_same, List.map_append]
            rfl
          · rw [List.length_append, lc]
            rfl
        · obtain ⟨s6, cs, hM, lc⟩ := hP
          rw [List.length_map] at lc
          refine ⟨(by show 1 ≤ sizeLine; decide), fun o no => ?_⟩
          have s7 := same_upd (o := .lst [.int 57]) no
          refine ⟨M, o, _, _, rfl, rfl, s7 _ _ hM, upd_same, ?_, fun r nr => ?_⟩
          · rw [List.length_map]
            show cs.length + 1 ≤ sizeLine
            exact Nat.le_of_lt (small (by omega))
          have s8 := same_upd (o := .lst (cs.map V.int ++ [.int 57])) nr
          refine ⟨_, rfl, (by show 4 ≤ sizeLine; decide), fun p np => ?_⟩
          have s9 := same_upd (o := .lst [.ref L, .ref r, .int 0, .int s]) np
          have sC := sc3.trans (s6.trans (s7.trans s8))
          have sT : Same H _ := sc.trans (sB.trans sC)
          refine q _ p (sT.trans s9) (sT.free np) ⟨L, r, gs, cs ++ [57], 0, s, upd_same, s9 _ _ (sC _ _ hL), ?_, by omega, g0, ?_, ?_, Int.le_refl _, s0, s1⟩
          · rw [s9 _ _ upd_same, List.map_append]
            rfl
          · rw [List.length_append]
            exact Nat.succ_pos _
          · rw [List.length_append]
            show cs.length + 1 ≤ 64
            omega
end
end UP

set_option Elab.async false
set_option linter.all false
set_option maxRecDepth 100000
set_option maxHeartbeats 4000000
namespace UP
open PySem PySem.Spec PyProof.Rows L2
/-! ### distances -/
def kdV : Option Run → V
  | none => .non
  | some r => .str r.1
def distR (a b : Option Run) : Int := if kdV a = kdV b then (if numR a - numR b < 0 then -(numR a - numR b) else numR a - numR b) else numR a + numR b
theorem dist_ss (r s : Run) : distR (some r) (some s) = if r.1 = s.1 then (if r.2 - s.2 < 0 then -(r.2 - s.2) else r.2 - s.2) else r.2 + s.2 := by
  unfold distR
  by_cases e : r.1 = s.1
  · rw [if_pos e, if_pos (by show V.str r.1 = V.str s.1; rw [e])]
    rfl
  · rw [if_neg e, if_neg (show ¬ kdV (some r) = kdV (some s) from fun z => e (V.str.inj z))]
    rfl
theorem dist_nn : distR none none = 0 := rfl
theorem dist_ns (r : Run) : distR none (some r) = r.2 := by
  unfold distR
  rw [if_neg (by intro z; cases z)]
  show 0 + r.2 = r.2
  omega
theorem dist_sn (r : Run) : distR (some r) none = r.2 := by
  unfold distR
  rw [if_neg (by intro z; cases z)]
  show r.2 + 0 = r.2
  omega
theorem dist_comm (a b : Option Run) : distR a b = distR b a := by
  cases a with
  | none =>
    cases b with
    | none => rfl
    | some s => rw [dist_ns, dist_sn]
  | some r =>
    cases b with
    | none => rw [dist_ns, dist_sn]
    | some s =>
      rw [dist_ss, dist_ss]
      by_cases e : r.1 = s.1
      · rw [if_pos e, if_pos e.symm]
        split <;> split <;> omega
      · rw [if_neg e, if_neg fun z => e z.symm]
        omega
theorem dist_zero {a b : Option Run} (pa : PosO a) (pb : PosO b) : distR a b = 0 ↔ a = b := by
  cases a with
  | none =>
    cases b with
    | none => exact ⟨fun _ => rfl, fun _ => rfl⟩
    | some s =>
      have := pb s rfl
      rw [dist_ns]
      exact ⟨fun z => by omega, fun z => by cases z⟩
  | some r =>
    have h1 := pa r rfl
    cases b with
    | none =>
      rw [dist_sn]
      exact ⟨fun z => by omega, fun z => by cases z⟩
    | some s =>
      have h2 := pb s rfl
      rw [dist_ss]
      constructor
      · intro z
        by_cases e : r.1 = s.1
        · rw [if_pos e] at z
          have : r.2 = s.2 := by
            split at z <;> omega
          rw [show r = s from Prod.ext e this]
        · rw [if_neg e] at z
          omega
      · intro z
        cases z
        rw [if_pos rfl]
        split <;> omega
theorem dist_tri {a b c : Option Run} (pa : PosO a) (pb : PosO b) (pc : PosO c) : ¬ distR a c + distR c b < distR a b := by
  cases a with
  | none =>
    cases b with
    | none =>
      cases c with
      | none => rw [dist_nn]; omega
      | some t =>
        have := pc t rfl
        rw [dist_nn, dist_ns, dist_sn]
        omega
    | some s =>
      have h2 := pb s rfl
      cases c with
      | none => rw [dist_nn, dist_ns]; omega
      | some t =>
        have := pc t rfl
        rw [dist_ns, dist_ss, dist_ns]
        split
        · split <;> omega
        · omega
  | some r =>
    have h1 := pa r rfl
    cases b with
    | none =>
      cases c with
      | none => rw [dist_nn, dist_sn]; omega
      | some t =>
        have := pc t rfl
        rw [dist_sn, dist_sn, dist_ss]
        split
        · split <;> omega
        · omega
    | some s =>
      have h2 := pb s rfl
      cases c with
      | none =>
        rw [dist_sn, dist_ns, dist_ss]
        split
        · split <;> omega
        · omega
      | some t =>
        have h3 := pc t rfl
        rw [dist_ss, dist_ss, dist_ss]
        by_cases e1 : r.1 = t.1
        · by_cases e2 : t.1 = s.1
          · rw [if_pos e1, if_pos e2, if_pos (e1.trans e2)]
            split <;> split <;> split <;> omega
          · rw [if_pos e1, if_neg e2, if_neg (fun z => e2 (e1.symm.trans z))]
            split <;> omega
        · by_cases e2 : t.1 = s.1
          · rw [if_neg e1, if_pos e2, if_neg (show ¬ r.1 = s.1 from fun z => e1 (z.trans e2.symm))]
            split <;> omega
          · rw [if_neg e1, if_neg e2]
            split
            · split <;> omega
            · omega
/-- one arrival: the distance stays or falls by 2 -/
theorem dist_step {a b : Option Run} {k : Str} (pa : PosO a) (pb : PosO b) : distR (stepR a k 1) (stepR b k 1) = distR a b ∨ distR (stepR a k 1) (stepR b k 1) = distR a b - 2 := by
  have sn : stepR none k 1 = some (k, 1) := rfl
  have sp : ∀ r : Run, 1 ≤ r.2 → (r.1 = k ∧ stepR (some r) k 1 = some (k, r.2 + 1)) ∨ (r.1 ≠ k ∧ 2 ≤ r.2 ∧ stepR (some r) k 1 = some (r.1, r.2 - 1)) ∨ (r.1 ≠ k ∧ r.2 = 1 ∧ stepR (some r) k 1 = none) := by
    intro r h
    by_cases e : r.1 = k
    · exact .inl ⟨e, if_pos e⟩
    · have es : stepR (some r) k 1 = if 0 < r.2 - 1 then some (r.1, r.2 - 1) else if r.2 - 1 = 0 then none else some (k, -(r.2 - 1)) := if_neg e
      by_cases g : 2 ≤ r.2
      · rw [if_pos (by omega)] at es
        exact .inr (.inl ⟨e, g, es⟩)
      · rw [if_neg (by omega), if_pos (by omega)] at es
        exact .inr (.inr ⟨e, by omega, es⟩)
  cases a with
  | none =>
    cases b with
    | none =>
      rw [sn, dist_ss, if_pos rfl, dist_nn]
      left
      split <;> omega
    | some s =>
      have h2 := pb s rfl
      rcases sp s h2 with ⟨e, es⟩ | ⟨e, g, es⟩ | ⟨e, g, es⟩
      · rw [sn, es, dist_ss, dist_ns, if_pos rfl]
        left
        show (if 1 - (s.2 + 1) < 0 then -(1 - (s.2 + 1)) else 1 - (s.2 + 1)) = s.2
        split <;> omega
      · rw [sn, es, dist_ss, dist_ns, if_neg fun z => e z.symm]
        left
        show 1 + (s.2 - 1) = s.2
        omega
      · rw [sn, es, dist_sn, dist_ns]
        left
        show 1 = s.2
        omega
  | some r =>
    have h1 := pa r rfl
    cases b with
    | none =>
      rcases sp r h1 with ⟨e, es⟩ | ⟨e, g, es⟩ | ⟨e, g, es⟩
      · rw [sn, es, dist_ss, dist_sn, if_pos rfl]
        left
        show (if r.2 + 1 - 1 < 0 then -(r.2 + 1 - 1) else r.2 + 1 - 1) = r.2
        split <;> omega
      · rw [sn, es, dist_ss, dist_sn, if_neg e]
        left
        show r.2 - 1 + 1 = r.2
        omega
      · rw [sn, es, dist_ns, dist_sn]
        left
        show 1 = r.2
        omega
    | some s =>
      have h2 := pb s rfl
      rw [dist_ss r s]
      rcases sp r h1 with ⟨e, es⟩ | ⟨e, g, es⟩ | ⟨e, g, es⟩
      · rcases sp s h2 with ⟨f, fs⟩ | ⟨f, j, fs⟩ | ⟨f, j, fs⟩
        · rw [es, fs, dist_ss, if_pos rfl, if_pos (e.trans f.symm)]
          left
          show (if r.2 + 1 - (s.2 + 1) < 0 then -(r.2 + 1 - (s.2 + 1)) else r.2 + 1 - (s.2 + 1)) = _
          split <;> split <;> omega
        · rw [es, fs, dist_ss, if_neg (fun z => f z.symm), if_neg (fun z => f (z.symm.trans e))]
          left
          show r.2 + 1 + (s.2 - 1) = _
          omega
        · rw [es, fs, dist_sn, if_neg (fun z => f (z.symm.trans e))]
          left
          show r.2 + 1 = _
          omega
      · rcases sp s h2 with ⟨f, fs⟩ | ⟨f, j, fs⟩ | ⟨f, j, fs⟩
        · rw [es, fs, dist_ss, if_neg e, if_neg (fun z => e (z.trans f))]
          left
          show r.2 - 1 + (s.2 + 1) = _
          omega
        · rw [es, fs, dist_ss]
          show (if r.1 = s.1 then (if r.2 - 1 - (s.2 - 1) < 0 then -(r.2 - 1 - (s.2 - 1)) else r.2 - 1 - (s.2 - 1)) else r.2 - 1 + (s.2 - 1)) = _ ∨ (if r.1 = s.1 then (if r.2 - 1 - (s.2 - 1) < 0 then -(r.2 - 1 - (s.2 - 1)) else r.2 - 1 - (s.2 - 1)) else r.2 - 1 + (s.2 - 1)) = _
          by_cases u : r.1 = s.1
          · rw [if_pos u, if_pos u]
            left
            split <;> split <;> omega
          · rw [if_neg u, if_neg u]
            right
            omega
        · rw [es, fs, dist_sn]
          show r.2 - 1 = _ ∨ r.2 - 1 = _
          by_cases u : r.1 = s.1
          · rw [if_pos u]
            left
            split <;> omega
          · rw [if_neg u]
            right
            omega
      · rcases sp s h2 with ⟨f, fs⟩ | ⟨f, j, fs⟩ | ⟨f, j, fs⟩
        · rw [es, fs, dist_ns, if_neg (fun z => e (z.trans f))]
          left
          show s.2 + 1 = _
          omega
        · rw [es, fs, dist_ns]
          show s.2 - 1 = _ ∨ s.2 - 1 = _
          by_cases u : r.1 = s.1
          · rw [if_pos u]
            left
            split <;> omega
          · rw [if_neg u]
            right
            omega
        · rw [es, fs, dist_nn]
          by_cases u : r.1 = s.1
          · rw [if_pos u]
            left
            split <;> omega
          · rw [if_neg u]
            right
            omega
section
variable {P : Program} {w : World} {K : PySem.W.Frag} {mg : Str → Option Value} {base : Heap}
/-! kind_of: slots 0:state -/
abbrev s_kind_of : Stmt := topS 39
theorem sc_kind_of : FnScope ["state"] ["state"] (defScope s_kind_of) := ⟨rfl, rfl, rfl, by decide +kernel, rfl, by decide +kernel, by decide +kernel⟩
def sp_kind_of : Sp := fun vs H Q _ => ∃ (v : V) (st : Option Run), vs = [v] ∧ StV H v st ∧ Q (kdV st) H
theorem ok_kind_of (D : Df K mg "kind_of" s_kind_of) : Has P w K mg base 1 "kind_of" ["state"] sp_kind_of := by
  refine has_of D sc_kind_of (fun _ _ _ _ _ _ us hl => match us, hl with | [_], _ => rfl) (fun vs H Q E h => ?_) (fun f cdv A outer s₀ H vs Q E hr h => ?_)
  · obtain ⟨a, rs, rfl, _⟩ := h
    rfl
  · obtain ⟨v, st, rfl, hv, q⟩ := h
    refine ⟨_, (pss_one (ps_ret (pe_ifExp (pt_cmpR op_isN (pv 0) pe_non (nomark _)) pe_non (pe_ix ix_tup (pv 0) pe_int (fun _ _ => rfl))))), ?_⟩
    cases st with
    | none =>
      cases hv
      exact ⟨_, rfl, rfl, _, rfl, iteP rfl q⟩
    | some r =>
      obtain ⟨t, rfl, ht⟩ := hv
      exact ⟨_, rfl, rfl, _, rfl, iteN rfl ⟨_, rfl, t, _, 0, _, rfl, rfl, .of ht, at0, q⟩⟩
theorem scal_kd (a b : Option Run) : scal (kdV a) (kdV b) = true := by
  cases a <;> cases b <;> rfl
end
end UP

set_option Elab.async false
set_option linter.all false
set_option maxRecDepth 100000
set_option maxHeartbeats 4000000
namespace UP
open PySem PySem.Spec PyProof.Rows L2
/-! ### repr of values that hold an empty dict -/
mutual
def Dat.py : Dat → PyData
  | .non => .none
  | .bl b => .bool b
  | .int n => .int n
  | .str z => .str z
  | .dic => .dict []
  | .lst l => .list (Dat.pys l)
  | .tup l => .tuple (Dat.pys l)
def Dat.pys : List Dat → List PyData
  | [] => []
  | x :: t => x.py :: Dat.pys t
end
def RpK (prog : Program) (w : World) (h : Heap) (u : Value) (d : PyData) : Prop :=
  (∃ as, Reads h u d as) ∧ (d.showable = true → d.shown.length ≤ sizeLine → ∃ bs, ReadAtMost h d.depth bs ∧ ReprK prog w bs h d.depth u d.shown)
def RpKs (prog : Program) (w : World) (h : Heap) (us : List Value) (ds : List PyData) : Prop :=
  (∃ as, ReadsAll h us ds as) ∧ (PyData.showableAll ds = true → (∀ t ∈ PyData.shownAll ds, t.length ≤ sizeLine) → ∃ bs, ReadAtMost h (PyData.depthAll ds) bs ∧ ReprAllK prog w bs h (PyData.depthAll ds) us (PyData.shownAll ds))
theorem dic_reads {X : Cx} {pins : List (Addr × Obj)} {σ : L2.St} {H : Hp} {s : Shared} {a : Addr} (I : Inv X pins σ H s) (e : H a = some (.dK [])) : ∃ o n, s.heap.get? a = some o ∧ o.cls = .type "dict" ∧ o.data = .dict #[] n ∧ (a == sysModules) = false := by
  obtain ⟨_, hs, vs, kv, o, es, ep, ho, ex, hd, _, hp, _⟩ := dk_of I.hok e
  cases kv
  obtain ⟨l⟩ := es
  have hp : Pairs (mixKind X.prog X.w) l [] := hp
  cases l with
  | nil => exact ⟨o, ep, ho, ex.1, hd, hs⟩
  | cons x t => cases hp
theorem RpKs.cons {prog : Program} {w : World} {h : Heap} {u : Value} {us : List Value} {d : PyData} {ds : List PyData} (h1 : RpK prog w h u d) (h2 : RpKs prog w h us ds) : RpKs prog w h (u :: us) (d :: ds) := by
  obtain ⟨⟨as, r⟩, k1⟩ := h1
  obtain ⟨⟨bs, rs⟩, k2⟩ := h2
  refine ⟨⟨_, .cons r rs⟩, fun hs hz => ?_⟩
  have hs' : d.showable = true ∧ PyData.showableAll ds = true := by simpa [PyData.showableAll] using hs
  obtain ⟨b1, hb1, k1⟩ := k1 hs'.1 (hz _ (by simp only [PyData.shownAll]; exact List.mem_cons_self ..))
  obtain ⟨b2, hb2, k2⟩ := k2 hs'.2 (fun t ht => hz t (by simp only [PyData.shownAll]; exact List.mem_cons_of_mem _ ht))
  refine ⟨b1 ++ b2, ?_, ?_⟩
  · simp only [PyData.depthAll]
    exact (hb1.mono (Nat.le_max_left _ _)).append (hb2.mono (Nat.le_max_right _ _))
  · simp only [PyData.depthAll, PyData.shownAll]
    exact .cons ((k1.more fun b hb => List.mem_append_left _ hb).level_le (Nat.le_max_left _ _)) (k2.more_le (fun b hb => List.mem_append_right _ hb) (Nat.le_max_right _ _))
theorem RpK.list {prog : Program} {w : World} {h : Heap} {a : Addr} {o : Obj} {its : List Value} {n : Nat} {ds : List PyData} (h1 : h.get? a = some o) (h2 : o.cls = .type "list") (h3 : o.data = .seq its.toArray n) (k : RpKs prog w h its ds) : RpK prog w h (.ref a) (.list ds) := by
  obtain ⟨⟨as, h4⟩, k⟩ := k
  have r : Reads h (.ref a) (.list ds) _ := .list h1 h2 h3 h4
  refine ⟨⟨_, r⟩, fun hs hz => ?_⟩
  have hz' : (listText (PyData.shownAll ds)).length ≤ sizeLine := by simpa only [PyData.shown] using hz
  obtain ⟨bs, hb, hk⟩ := k (by simpa [PyData.showable] using hs) (fun t ht => Nat.le_trans (listText_mem_le ht) hz')
  have hna : a ∉ bs := not_mem_of_deeper r (by simp only [PyData.depth]; omega) hb
  refine ⟨a :: bs, ReadAtMost.cons r (by simp only [PyData.depth]; omega) hb, ?_⟩
  simp only [PyData.depth, PyData.shown]
  cases its with
  | nil =>
    have h4' : ReadsAll h [] ds _ := h4
    cases h4'
    simp only [PyData.shownAll, listText_nil]
    exact ReprK.listEmpty h1 h2 h3
  | cons x l => exact ReprK.list h1 h2 h3 hna (by simpa using hk.length_eq) (fun i y e => hk.item i y (by simpa using e))
theorem RpK.tuple {prog : Program} {w : World} {h : Heap} {a : Addr} {o : Obj} {its : List Value} {n : Nat} {ds : List PyData} (h1 : h.get? a = some o) (h2 : o.cls = .type "tuple") (h3 : o.data = .seq its.toArray n) (k : RpKs prog w h its ds) : RpK prog w h (.ref a) (.tuple ds) := by
  obtain ⟨⟨as, h4⟩, k⟩ := k
  have r : Reads h (.ref a) (.tuple ds) _ := .tuple h1 h2 h3 h4
  refine ⟨⟨_, r⟩, fun hs hz => ?_⟩
  have hz' : (tupleText (PyData.shownAll ds)).length ≤ sizeLine := by simpa only [PyData.shown] using hz
  obtain ⟨bs, hb, hk⟩ := k (by simpa [PyData.showable] using hs) (fun t ht => Nat.le_trans (tupleText_mem_le ht) hz')
  have hna : a ∉ bs := not_mem_of_deeper r (by simp only [PyData.depth]; omega) hb
  refine ⟨a :: bs, ReadAtMost.cons r (by simp only [PyData.depth]; omega) hb, ?_⟩
  simp only [PyData.depth, PyData.shown]
  exact ReprK.tuple h1 h2 h3 hna hk
theorem RpK.dict {prog : Program} {w : World} {h : Heap} {a : Addr} {o : Obj} {n : Nat} (h1 : h.get? a = some o) (h2 : o.cls = .type "dict") (h3 : o.data = .dict #[] n) (hs : (a == sysModules) = false) : RpK prog w h (.ref a) (.dict []) := by
  have r : Reads h (.ref a) (.dict []) _ := .dict h1 h2 h3 .nil .nil
  refine ⟨⟨_, r⟩, fun _ _ => ⟨[a], ?_, ?_⟩⟩
  · intro b hb
    rw [List.mem_singleton.mp hb]
    exact ⟨_, _, r, Nat.le_refl _⟩
  · exact ReprK.dict h1 h2 h3 hs (fun z => by cases z) .nil
theorem Rp.reprK {X : Cx} {pins : List (Addr × Obj)} {σ : L2.St} {H : Hp} {s : Shared} (I : Inv X pins σ H s) {v : V} {d : Dat} (h : Rp H v d) : ∀ u, RelV v u → RpK X.prog X.w s.heap u d.py := by
  refine Rp.rec (motive_1 := fun v d _ => ∀ u, RelV v u → RpK X.prog X.w s.heap u d.py) (motive_2 := fun xs l _ => ∀ us, Vals xs us → RpKs X.prog X.w s.heap us (Dat.pys l)) ?_ ?_ ?_ ?_ ?_ ?_ ?_ ?_ ?_ h
  · intro u r
    cases r
    exact ⟨⟨_, .none⟩, fun hs hz => ReprK.of_reads .none hs (fun z => by cases z) hz⟩
  · intro b u r
    cases r
    exact ⟨⟨_, .bool b⟩, fun hs hz => ReprK.of_reads (.bool b) hs (fun z => by cases z) hz⟩
  · intro n u r
    obtain ⟨t, rfl⟩ := r
    exact ⟨⟨_, .int n t⟩, fun hs hz => ReprK.of_reads (.int n t) hs (fun z => by cases z) hz⟩
  · intro n u r
    obtain ⟨t, rfl⟩ := r
    exact ⟨⟨_, .str n t⟩, fun hs hz => ReprK.of_reads (.str n t) hs (fun z => by cases z) hz⟩
  · intro a e u r
    cases r
    obtain ⟨o, n, h1, h2, h3, h4⟩ := dic_reads I e
    exact RpK.dict h1 h2 h3 h4
  · intro a xs l e _ ih u r
    cases r
    obtain ⟨its, rv, ⟨o, n, ho, hc, _, hd⟩, _⟩ := I.list (SqL.of e)
    exact RpK.list ho hc hd (ih its rv)
  · intro a xs l e _ ih u r
    cases r
    obtain ⟨its, rv, ⟨o, ho, hc, n, hd⟩, _⟩ := I.tuple (SqT.of e)
    exact RpK.tuple ho hc hd (ih its rv)
  · intro us r
    cases r
    exact ⟨⟨_, .nil⟩, fun _ _ => ⟨[], (fun _ h => nomatch h), by simp only [Dat.pys, PyData.shownAll]; exact .nil⟩⟩
  · intro x y xs ys _ _ h1 h2 us r
    cases r with
    | cons r1 r2 => exact RpKs.cons (h1 _ r1) (h2 _ r2)
/-- repr(xs), xs a list or a tuple of such values -/
def rReprR : List V → Hp → VK → Prop := fun xs H Q => ∃ (a : Addr) (d : Dat), xs = [.ref a] ∧ Rp H (.ref a) d ∧ d.py.showable = true ∧ d.py.depth ≤ 64 ∧ d.py.shown.length ≤ sizeLine ∧ Q (.str d.py.shown) H
theorem call_reprR {X : Cx} (hg : X.A.guards = some []) (hu : X.A.units + 70 < cLine) : CallR X (.builtin "repr") rReprR := by
  intro pins s σ H xs us Q I r h
  obtain ⟨a, d, rfl, hr, sh, dp, sz, q⟩ := h
  obtain ⟨u, rfl, ru⟩ := vals1 r
  cases (show u = Value.ref a from ru)
  have fin : ∀ h' u tk, (∀ b o, s.heap.get? b = some o → h'.get? b = some o) → EP X pins σ Q (.str d.py.shown u) { s with heap := h', toks := tk } := fun h' u tk hk => ⟨.str d.py.shown, H, I.kept (t' := tk) hk, ⟨u, rfl⟩, q⟩
  cases hr with
  | dic e =>
    obtain ⟨o, n, h1, h2, h3, h4⟩ := dic_reads I e
    have rd : Reads s.heap (.ref a) (.dict []) _ := .dict h1 h2 h3 .nil .nil
    exact repr_of_reads' rd sh (fun _ z => by
      have z : sysModules ∈ [a] := z
      rw [List.mem_singleton.mp z] at h4
      simp at h4) hg (by show X.A.units + ((PyData.dict []).depth + 1) < cLine; have : (PyData.dict []).depth ≤ 64 := dp; omega) (fun _ _ e => e) fin sz
  | @lst _ xs l e hp =>
    obtain ⟨its, rv, ⟨o, n, ho, hc, _, hd⟩, _⟩ := I.list (SqL.of e)
    have all : ∀ {xs : List V} {l : List Dat}, Paired (Rp H) xs l → ∀ us, Vals xs us → RpKs X.prog X.w s.heap us (Dat.pys l) := by
      intro xs l hp
      induction hp with
      | nil =>
        intro us r
        cases r
        exact ⟨⟨_, .nil⟩, fun _ _ => ⟨[], (fun _ h => nomatch h), by simp only [Dat.pys, PyData.shownAll]; exact .nil⟩⟩
      | cons h1 _ ih =>
        intro us r
        cases r with
        | cons r1 r2 => exact RpKs.cons (h1.reprK I _ r1) (ih _ r2)
    have k := all hp its rv
    obtain ⟨⟨as, h4⟩, k⟩ := k
    have sz' : (listText (PyData.shownAll (Dat.pys l))).length ≤ sizeLine := by simpa only [Dat.py, PyData.shown] using sz
    obtain ⟨bs, hb, hk⟩ := k (by simpa [Dat.py, PyData.showable] using sh) (fun t ht => Nat.le_trans (listText_mem_le ht) sz')
    have r : Reads s.heap (.ref a) (.list (Dat.pys l)) _ := .list ho hc hd h4
    have hna : a ∉ bs := not_mem_of_deeper r (by simp only [PyData.depth]; omega) hb
    have dp' : PyData.depthAll (Dat.pys l) + 1 ≤ 64 := by simpa only [Dat.py, PyData.depth] using dp
    simp only [Dat.py, PyData.shown] at fin
    refine call_repr_slot (by omega) ⟨o, ho, hc⟩ F.slot_list_repr.toG ?_
    cases its with
    | nil =>
      have h4' : ReadsAll s.heap [] (Dat.pys l) _ := h4
      cases hl : Dat.pys l with
      | nil =>
        rw [hl] at fin
        simp only [PyData.shownAll, listText_nil] at fin
        exact call_list_repr_empty ⟨o, ho, hc⟩ ho hd ⟨_, _, rfl, fin s.heap _ _ fun _ _ e => e⟩
      | cons x t =>
        rw [hl] at h4'
        cases h4'
    | cons x t =>
      exact call_list_reprK ho hc hd hna (by simpa using hk.length_eq) (fun i y e => hk.item i y (by simpa using e)) (g := []) hg (fun b _ => Clear.nil b) (by show X.A.units + 1 + _ < cLine; omega) (fun _ _ e => e) (fun h' u tk hk => ⟨_, _, rfl, fin h' u tk hk⟩) sz'
  | @tup _ xs l e hp =>
    obtain ⟨its, rv, ⟨o, ho, hc, n, hd⟩, _⟩ := I.tuple (SqT.of e)
    have all : ∀ {xs : List V} {l : List Dat}, Paired (Rp H) xs l → ∀ us, Vals xs us → RpKs X.prog X.w s.heap us (Dat.pys l) := by
      intro xs l hp
      induction hp with
      | nil =>
        intro us r
        cases r
        exact ⟨⟨_, .nil⟩, fun _ _ => ⟨[], (fun _ h => nomatch h), by simp only [Dat.pys, PyData.shownAll]; exact .nil⟩⟩
      | cons h1 _ ih =>
        intro us r
        cases r with
        | cons r1 r2 => exact RpKs.cons (h1.reprK I _ r1) (ih _ r2)
    have k := all hp its rv
    obtain ⟨⟨as, h4⟩, k⟩ := k
    have sz' : (tupleText (PyData.shownAll (Dat.pys l))).length ≤ sizeLine := by simpa only [Dat.py, PyData.shown] using sz
    obtain ⟨bs, hb, hk⟩ := k (by simpa [Dat.py, PyData.showable] using sh) (fun t ht => Nat.le_trans (tupleText_mem_le ht) sz')
    have r : Reads s.heap (.ref a) (.tuple (Dat.pys l)) _ := .tuple ho hc hd h4
    have hna : a ∉ bs := not_mem_of_deeper r (by simp only [PyData.depth]; omega) hb
    have dp' : PyData.depthAll (Dat.pys l) + 1 ≤ 64 := by simpa only [Dat.py, PyData.depth] using dp
    simp only [Dat.py, PyData.shown] at fin
    refine call_repr_slot (by omega) ⟨o, ho, hc⟩ F.slot_tuple_repr ?_
    exact call_tuple_reprK ho hc hd hna hk (g := []) hg (fun b _ => Clear.nil b) (by show X.A.units + 1 + _ < cLine; omega) (fun _ _ e => e) (fun h' u tk hk => ⟨_, _, rfl, fin h' u tk hk⟩) sz'
end UP

set_option Elab.async false
set_option linter.all false
set_option maxRecDepth 100000
set_option maxHeartbeats 4000000
namespace UP
open PySem PySem.Spec PyProof.Rows L2
/-! ### an exception that is kept beyond its clause -/
def ExD (cls : Value) (d : Option Addr) (a : Addr) : HO := .ext fun h => ∃ (oe : Obj) (vs : Array Value), h.get? a = some oe ∧ Zc cls d oe ∧ oe.data = .fields vs
/-- its own dict, if it has one, stands there -/
def DOk (H : Hp) (d : Option Addr) : Prop := ∀ dx, d = some dx → ∃ fs, H dx = some (.xd fs)
theorem DOk.same {H H' : Hp} {d : Option Addr} (h : DOk H d) (s : Same H H') : DOk H' d := fun dx e => by
  obtain ⟨fs, z⟩ := h dx e
  exact ⟨fs, s _ _ z⟩
theorem dok_none {H : Hp} : DOk H none := fun dx e => by cases e
theorem track {X : Cx} {pins : List (Addr × Obj)} {σ : L2.St} {H : Hp} {s : Shared} {a : Addr} {oe : Obj} {vs : Array Value} {cls : Value} {d : Option Addr} (I : Inv X pins σ H s) (na : H a = none) (ha : s.heap.get? a = some oe) (hz : Zc cls d oe) (hd : oe.data = .fields vs)
    (n0 : X.s_0.heap.get? a = none) (nL : a ≠ X.env.locals) (np : ∀ p ∈ X.pn ++ pins, p.1 ≠ a) : Inv X pins σ (upd H a (ExD cls d a)) s := by
  have k : ∀ b o, H b = some o → upd H a (ExD cls d a) b = some o := fun b o e => by
    rw [upd_ne (ne_of_none e na)]
    exact e
  refine ⟨I.ok, I.os, I.bare, ⟨I.base.keep, I.base.slot, fun b o e n hx => ?_, I.base.there, fun b xs e => k _ _ (I.base.tups b xs e), fun b o u e => k _ _ (I.base.frzs b o u e), fun b ps e => ?_⟩, I.loc, I.cell, ?_, fun x c e => ?_, fun p hp => ?_, HOk.laidN I.hok (fun _ _ e => e) na ?_, I.len⟩
  · have nb : b ≠ a := fun z => by
      rw [z, n0] at e
      cases e
    rw [upd_ne nb]
    exact I.base.free b o e n hx
  · obtain ⟨m, h⟩ := I.base.tbls b ps e
    exact ⟨m, k _ _ h⟩
  · rw [upd_ne nL.symm]
    exact I.free
  · have nb : c ≠ a := fun z => by
      obtain ⟨v, o, ho, hc⟩ := I.cell x c e
      rw [z, ha] at ho
      cases ho
      rw [hd] at hc
      cases hc
    rw [upd_ne nb]
    exact I.freeC x c e
  · obtain ⟨h1, h2, h3⟩ := I.pin p hp
    exact ⟨h1, by rw [upd_ne (np p hp)]; exact h2, h3⟩
  · exact ⟨⟨oe, vs, ha, hz, hd⟩, ⟨oe, ha⟩, fun _ _ ⟨o, v, q, r⟩ kk => ⟨o, v, kk o q, r⟩⟩
theorem sky_new {B : Heap} {l : List Env} {a L : Addr} {Z : Obj → Prop} {h : Heap} (s : Sky B l a Z L h) : B.get? a = none := by
  rcases s with s | s | s
  · exact s.2.1
  · exact s.2.1
  · exact s.2.1
/-- what 'except x as n: y = n' wishes of an exception of the body, one of x's always -/
def wKeep (K : PySem.W.Frag) (c : Value) (i j : Nat) (D : Ends) : WX := fun cls d σ H =>
  PySem.W.exmOne K cls c = some true ∧ ∀ a, H a = none → D.nx (((σ.set i (some (.ref a))).set j (some (.ref a))).set i none) (upd H a (ExD cls d a))
theorem ps_try_keep {X : Cx} {x n y : Str} {c : Value} {i j : Nat} {body : List Stmt} {np py pm ap pos pos' : Pos} {tb : WX → TS} (hs : X.stack = X.env :: X.outer) (hf : X.env.frame = some X.env.locals) (hN : X.N.Nodup) (hi : X.N[i]? = some n) (hln : X.env.kindOf n = some .local) (hc : Names X x c) (hx0 : X.ex = [])
    (hb : ∀ (W : WX) (pn : List (Addr × Obj)) (xe : Value → Shared → Prop), Takes (X.tr pn xe) W → PassesOwn (model X.prog X.w) X.A X.env xe → PSs (X.tr pn xe) body (tb W))
    (hsu : ∀ (a : Addr) (pn : List (Addr × Obj)), PSs (X.suite a pn) [.Assign [.Name y py] (.Name n pm) ap] (tAsg (tVar i) (gName j))) :
    PS X (.Try body [.ExceptHandler (some (.Name x np)) (some n) [.Assign [.Name y py] (.Name n pm) ap] pos'] [] [] pos) (fun D σ H => tb (wKeep X.K c i j D) D σ H) := by
  refine ⟨fun pins s σ H D I h => ?_⟩
  have ok := I.ok
  refine wpAny_Try_except (wpAny_mono ((hb (wKeep X.K c i j D) (X.pn ++ pins) _ (fun u s' xx => ?_) PassesOwn.looking).run [] s σ H D (I.toTry _) h) (fun f s1 hsp => ?_) (fun e s1 he => he))
  · obtain ⟨a, B, sI, pins', σ1, H1, cls, d, rfl, J0, nb, up, sky, na, os, ag, hexm, q⟩ := xx
    have J : Inv X pins σ1 H1 sI := J0.ofTry ok
    have sky : Sky B (X.env :: X.outer) a (Zc cls d) X.env.locals s'.heap := by
      rw [← hs]
      exact sky
    have fr : X.A.frames = some (X.env :: X.outer) := by rw [ok.frames, hs]
    show wpAny (model X.prog X.w) X.A (noteFrame (.ref a) X.env) _ _ _
    have nB := sky_new sky
    refine Sky.land Zc.steady fr hf sky fun h3 fl3 up3 => ?_
    have J3 : Inv X pins σ1 H1 { s' with heap := h3 } := J.landed nb fl3.1 (up.trans up3) os ag
    obtain ⟨o3, v3, e3, z3, d3⟩ := fl3.there
    have notFr : a ∉ frs (X.env :: X.outer) := fun hm => by
      obtain ⟨_, o, e, hnf⟩ := fl3.2.2.1.mem hm
      rw [e3] at e
      cases e
      exact hnf _ d3
    have nL : a ≠ X.env.locals := fun z => notFr (List.mem_filterMap.mpr ⟨X.env, List.mem_cons_self, by rw [hf, z]⟩)
    have nF : a ∉ X.fs := fun hm => by
      obtain ⟨e, he, r⟩ := List.mem_filterMap.mp hm
      exact notFr (List.mem_filterMap.mpr ⟨e, List.mem_cons_of_mem _ he, r⟩)
    have nI : sI.heap.get? a = none := by
      cases hI : sI.heap.get? a with
      | none => rfl
      | some o =>
        have := nb a o hI (by
          show a ∉ frs X.stack
          rw [hs]
          exact notFr)
        rw [nB] at this
        cases this
    have n0 : X.s_0.heap.get? a = none := by
      cases h0 : X.s_0.heap.get? a with
      | none => rfl
      | some o =>
        obtain ⟨o', e'⟩ := J.base.there a o h0 (by rw [hx0]; exact List.not_mem_nil)
        rw [nI] at e'
        cases e'
    have npn : ∀ p ∈ X.pn ++ pins, p.1 ≠ a := fun p hp z => by
      have := (J.pin p hp).1
      rw [z, nI] at this
      cases this
    have S3 := J3.suite e3 d3 na nL nF
    refine wpAny_handleBy_cons (codeAny_handlers_test ?_) (by intro r; cases r)
    have LT : PySem.W.Looks (model X.prog X.w) h3 (typeOf (.ref a)) cls := fun A Q E s k r => wpAny_typeOf_ref (k _ _ e3) (by rw [z3.1]; exact r)
    have LM := PySem.W.exm_one (M := model X.prog X.w) (J3.kIn) LT hexm
    have test : ∀ {Q : Value → Shared → Prop} {E : Value → Shared → Prop}, Q c { s' with heap := h3 } → wpAny (model X.prog X.w) (X.A.mark (some (.ref a))) (eval (.Name x np) X.env) Q E { s' with heap := h3 } := fun {Q E} r => by
      obtain ⟨hg, hdbg, hm | ⟨hm, hv, hnn⟩⟩ := hc
      · exact ld_glob (X := X.suite a ((a, o3) :: (X.pn ++ pins))) S3 hg hm r hdbg
      · exact ld_blt (X := X.suite a ((a, o3) :: (X.pn ++ pins))) S3 hg hm hv r hnn hdbg
    refine test (LM.here (codeAny_handlers_suite_as (HandSPX.lands_againZ fl3 fun h4 fl4 up4 => ?_)))
    have J4 : Inv X pins σ1 H1 { s' with heap := h4 } := J.landed nb fl4.1 ((up.trans up3).trans up4) os ag
    obtain ⟨o4, v4, e4, z4, d4⟩ := fl4.there
    refine store_ok (X := X.suite a ((a, o4) :: (X.pn ++ pins))) (v := .ref a) (J4.suite e4 d4 na nL nF) hN hi (.inl hln) rfl (fun s5 S5 => ?_) (.inr hln)
    refine wpAny_mono ((hsu a ((a, o4) :: (X.pn ++ pins))).run [] s5 _ H1 { nx := fun σ6 H6 => σ6 = (σ1.set i (some (.ref a))).set j (some (.ref a)) ∧ H6 = H1, rt := fun _ _ => False, bk := fun _ _ => False, ct := fun _ _ => False } S5 ?_) (fun f s6 hsp => ?_) (fun _ _ r => False.elim r)
    · refine ⟨.ref a, ?_, rfl, rfl⟩
      have li : i < σ1.length := by
        rw [J.len]
        exact (List.getElem?_eq_some_iff.mp hi).1
      exact List.getElem?_set_self li
    cases f with
    | next =>
      obtain ⟨σ6, H6, S6, rfl, rfl⟩ := hsp
      have U := S6.unsuite ok
      have J6 : Inv X ((a, o4) :: pins) ((σ1.set i (some (.ref a))).set j (some (.ref a))) H6 s6 := ⟨U.ok, U.os, U.bare, U.base, U.loc, U.cell, U.free, U.freeC, fun p hp => by
        rcases List.mem_append.mp hp with z | z
        · exact U.pin p (List.mem_append_left _ z)
        · rcases List.mem_cons.mp z with z | z
          · rw [z]
            exact S6.pin (a, o4) (List.mem_append_left _ List.mem_cons_self)
          · exact U.pin p (List.mem_append_right _ z), U.hok, U.len⟩
      refine gone_ok J6 hN hi hln fun s7 J7 => ?_
      have e7 := (J7.pin (a, o4) (List.mem_append_right _ List.mem_cons_self)).1
      have K7 : Inv X pins (((σ1.set i (some (.ref a))).set j (some (.ref a))).set i none) H6 s7 := ⟨J7.ok, J7.os, J7.bare, J7.base, J7.loc, J7.cell, J7.free, J7.freeC, fun p hp => J7.pin p (by
        rcases List.mem_append.mp hp with z | z
        · exact List.mem_append_left _ z
        · exact List.mem_append_right _ (List.mem_cons_of_mem _ z)), J7.hok, J7.len⟩
      exact ⟨_, _, track K7 na e7 z4 d4 n0 nL npn, q a na⟩
    | brk =>
      obtain ⟨_, _, _, z⟩ := hsp
      exact z.elim
    | cont =>
      obtain ⟨_, _, _, z⟩ := hsp
      exact z.elim
    | ret u =>
      obtain ⟨_, _, _, _, _, z⟩ := hsp
      exact z.elim
  · cases f with
    | next =>
      obtain ⟨σ1, H1, J1, q⟩ := hsp
      exact wpAny_execs_nil ⟨σ1, H1, J1.ofTry ok, q⟩
    | brk =>
      obtain ⟨σ1, H1, J1, q⟩ := hsp
      exact ⟨σ1, H1, J1.ofTry ok, q⟩
    | cont =>
      obtain ⟨σ1, H1, J1, q⟩ := hsp
      exact ⟨σ1, H1, J1.ofTry ok, q⟩
    | ret u =>
      obtain ⟨v, σ1, H1, J1, r, q⟩ := hsp
      exact ⟨v, σ1, H1, J1.ofTry ok, r, q⟩
/-- isinstance(e, c), e kept -/
def rIsK (K : PySem.W.Frag) : List V → Hp → VK → Prop := fun xs H Q => ∃ (a D : Addr) (d : Option Addr) (c : V) (cv : Value) (b : Bool), xs = [.ref a, c] ∧ H a = some (ExD (.ref D) d a) ∧ DOk H d ∧ ExcC K D ∧ (∀ u, RelV c u → u = cv) ∧ PySem.W.kitOne K (.ref D) cv = some b ∧ Q (.bl b) H
theorem inst_of {X : Cx} {pins : List (Addr × Obj)} {σ : L2.St} {H : Hp} {s : Shared} {a D : Addr} {d : Option Addr} (I : Inv X pins σ H s) (h : H a = some (ExD (.ref D) d a)) (hd : DOk H d) : ∃ oe od, PySem.W.InstAt s.heap a oe D od := by
  have z : ObjOk X.prog X.w H s.heap a (.ext fun h => ∃ (oe : Obj) (vs : Array Value), h.get? a = some oe ∧ Zc (.ref D) d oe ∧ oe.data = .fields vs) := I.hok a _ h
  obtain ⟨⟨oe, vs, hget, hz, hv⟩, _⟩ := z
  obtain ⟨oc, od, oda, osl⟩ := oe
  obtain ⟨h1, h2⟩ := hz
  dsimp only at h1 h2 hv
  subst h1 h2 hv
  cases od with
  | none => exact ⟨_, none, hget, rfl, rfl, trivial⟩
  | some dx =>
    obtain ⟨fs, hx⟩ := hd dx rfl
    have y : ObjOk X.prog X.w H s.heap dx (.xd fs) := I.hok dx _ hx
    obtain ⟨mA, ⟨o, es, ep, ho, hr⟩, _⟩ := y
    exact ⟨_, some o, hget, rfl, rfl, ho⟩
theorem excC_cl {K : PySem.W.Frag} {D : Addr} (C : ExcC K D) : (PySem.W.clsIn K D).isSome = true := by
  obtain ⟨cd, hc, _⟩ := PySem.W.any_some C.hd
  rw [hc]
  rfl
theorem call_isK {X : Cx} : CallR X (.builtin "isinstance") (rIsK X.K) := by
  intro pins s σ H xs us Q I r h
  obtain ⟨a, D, d, c, cv, b, rfl, hE, hd, C, hcv, e, q⟩ := h
  cases r with
  | cons rx rr =>
    cases rr with
    | cons rt rr =>
      cases rr
      cases rx
      have ec := hcv _ rt
      subst ec
      obtain ⟨oe, od, J⟩ := inst_of I hE hd
      exact PySem.W.kia_one (PySem.W.kitx_exc (excC_cl C) C.hg C.hk C.hs C.ha C.hn C.ht C.hm) I.kIn J e (fun z => nomatch z) fun tk => ⟨.bl b, H, I.kept (t' := tk) fun _ _ z => z, rfl, q⟩
end UP

set_option Elab.async false
set_option linter.all false
set_option maxRecDepth 100000
set_option maxHeartbeats 4000000
namespace UP
open PySem PySem.Spec PyProof.Rows L2
def six : List Str := ["InvalidSequence", "InvalidState", "InvalidPosition", "InvalidNumber", "InvalidItems", "TooLong"]
def oddA : List Str := ["Contradiction", "Impossible", "InvalidCommand", "InvalidCounts", "InvalidEffects", "InvalidKind"]
def oddB : List Str := ["InvalidKinds", "InvalidRecord", "InvalidText", "NothingToUndo", "SameEffect", "TooMany"]
/-- the classes stand there -/
structure Cmg (mg : Str → Option Value) (CA : Str → Addr) : Prop where
  all : ∀ n, n ∈ six ++ (oddA ++ (oddB ++ [("PairError" : Str)])) → mg n = some (.ref (CA n))
/-- what the class nm says of itself -/
structure ClsF (K : PySem.W.Frag) (CA : Str → Addr) (nm : Str) : Prop where
  ex : ExcC K (CA nm)
  em : PySem.W.exmOne K (.ref (CA nm)) (.ref (CA "PairError")) = some true
  ki : ∀ n, n ∈ six ++ (oddA ++ oddB) → PySem.W.kitOne K (.ref (CA nm)) (.ref (CA n)) = some (decide (n = nm))
  kp : PySem.W.kitOne K (.ref (CA nm)) (.ref (CA "PairError")) = some true
  kv : PySem.W.kitOne K (.ref (CA nm)) (.type "ValueError") = some true
theorem lenR_nn : ∀ {rs : List Run}, (∀ r ∈ rs, 1 ≤ r.2) → 0 ≤ lenR rs
  | [], _ => Int.le_refl _
  | r :: t, k => by
    have h1 := k r (List.mem_cons_self ..)
    have h2 := lenR_nn (rs := t) fun x hx => k x (List.mem_cons_of_mem _ hx)
    rw [lenR_cons]
    omega
end UP

set_option Elab.async false
set_option linter.all false
set_option maxRecDepth 100000
set_option maxHeartbeats 4000000
namespace UP
open PySem PySem.Spec PyProof.Rows L2
/-! ### counts -/
def Asc (cs : List Run) : Prop := ∀ (i : Nat) (x y : Run), cs[i]? = some x → cs[i + 1]? = some y → x.1.cps.toList < y.1.cps.toList
def CtOk (cs : List Run) : Prop := cs.length ≤ 12 ∧ (∀ r ∈ cs, RunOk r) ∧ Asc cs
def cwR (cs : List Run) (st : Option Run) : List Run := cs.map fun r => (r.1, if kdV st = .str r.1 then r.2 - numR st else r.2)
/-- a list whose items are all tuples -/
def FlatL (ys : List V) : Prop := ys.length ≤ 4 ∧ ∀ y ∈ ys, (∃ z, y = V.str z) ∨ ∃ n, y = V.int n
theorem flat_nil : FlatL [] := ⟨Nat.zero_le _, fun y hy => by cases hy⟩
theorem flat_of {ys : List V} (l : ys.length ≤ 4) (h : ys.all (fun y => match y with | .str _ => true | .int _ => true | _ => false) = true) : FlatL ys := ⟨l, fun y hy => by
  have := List.all_eq_true.mp h y hy
  cases y with
  | str z => exact .inl ⟨z, rfl⟩
  | int n => exact .inr ⟨n, rfl⟩
  | _ => cases this⟩
/-- a tuple of texts and numbers -/
def RefT (H : Hp) (x : V) : Prop := ∃ t ys, x = V.ref t ∧ H t = some (.tup ys) ∧ FlatL ys
theorem RefT.same {H H' : Hp} {x : V} (h : RefT H x) (s : Same H H') : RefT H' x := by
  obtain ⟨t, ys, e, ht, f⟩ := h
  exact ⟨t, ys, e, s _ _ ht, f⟩
theorem RefT.grow {H : Hp} {D : Addr} {acc acc' : List V} {x : V} (hD : H D = some (.lst acc)) (h : RefT H x) : RefT (upd H D (.lst acc')) x := by
  obtain ⟨t, ys, e, ht, f⟩ := h
  refine ⟨t, ys, e, ?_, f⟩
  rw [upd_ne (ne_of ht hD (by intro q; cases q))]
  exact ht
def Refs (H : Hp) (p : Addr) (n : Nat) : Prop := ∃ xs : List V, H p = some (.lst xs) ∧ xs.length = n ∧ ∀ x ∈ xs, RefT H x
theorem Refs.same {H H' : Hp} {p : Addr} {n : Nat} (s : Same H H') (h : Refs H p n) : Refs H' p n := by
  obtain ⟨xs, e, l, k⟩ := h
  exact ⟨xs, s _ _ e, l, fun x hx => (k x hx).same s⟩
section
variable {P : Program} {w : World} {K : PySem.W.Frag} {mg : Str → Option Value} {base : Heap}
/-! counts_without: slots 0:counts 1:state 2:kind 3:count -/
abbrev s_counts_without : Stmt := topS 43
theorem sc_counts_without : FnScope ["counts", "state", "kind", "count"] ["counts", "state"] (defScope s_counts_without) := ⟨rfl, rfl, rfl, by decide +kernel, rfl, by decide +kernel, by decide +kernel⟩
def sp_counts_without : Sp := fun vs H Q _ => ∃ (a : Addr) (cs : List Run) (v : V) (st : Option Run), vs = [.ref a, v] ∧ Runs H a cs ∧ cs.length ≤ 12 ∧ StV H v st ∧ ∀ H' p, Same H H' → H p = none → Runs H' p (cwR cs st) → Q (.ref p) H'
theorem ok_counts_without (D : Df K mg "counts_without" s_counts_without) (G_kind_of : Has P w K mg base 1 "kind_of" ["state"] sp_kind_of) (G_waiting_number : Has P w K mg base 1 "waiting_number" ["state"] sp_waiting_number) : Has P w K mg base 2 "counts_without" ["counts", "state"] sp_counts_without := by
  refine has_of D sc_counts_without (fun _ _ _ _ _ _ us hl => match us, hl with | [_, _], _ => rfl) (fun vs H Q E h => ?_) (fun f cdv A outer s H vs Q E hr h => ?_)
  · obtain ⟨_, _, _, _, rfl, _⟩ := h
    rfl
  · obtain ⟨a, cs, v, st, rfl, ⟨xs, hx, hp⟩, l12, hv, q⟩ := h
    have lx : xs.length = cs.length := Paired.len hp
    refine ⟨_, (pss_one (ps_ret (pe_lc (own := [("kind", 2), ("count", 3)]) rfl sc_counts_without.nd (pi_list (pv 0)) (blkOk_by (N := ["counts", "state", "kind", "count"]) (sc := defScope s_counts_without) (by decide +kernel)) (fun _ _ _ _ _ => (pg_tupK (K := K) (n := 2) rfl rfl (pgs_cons (pg_name (i := 2) sc_counts_without.nd rfl (by first | exact Or.inl rfl | exact Or.inr rfl)) (pgs_cons (pg_name (i := 3) sc_counts_without.nd rfl (by first | exact Or.inl rfl | exact Or.inr rfl)) pgs_nil)))) (fun _ _ _ _ _ => pts_nil) (fun _ _ _ _ _ => (pe_tup (pa_cons (pv 2) (pa_cons (pe_ifExp (pt_cmpR op_eq (pv 2) (pe_callH G_kind_of (hr.mono (by omega)) (by rfl) (pa_cons (pv 1) pa_nil)) (nomark _)) (pe_op op_sub (pv 3) (pe_callH G_waiting_number (hr.mono (by omega)) (by rfl) (pa_cons (pv 1) pa_nil))) (pv 3)) pa_nil))))))), ?_⟩
    refine ⟨_, rfl, a, rfl, ⟨xs, .of hx⟩, fun L nL => lc_list (K := K) (a := a) (xs := xs) (fun i H' => Same H H' ∧ ∃ ys, H' L = some (.lst ys) ∧ Paired (RunV H') ys (cwR (cs.take i) st)) ⟨same_upd nL, [], upd_same, .nil⟩ (fun i H' _ p => .of (p.1 _ _ hx)) (fun i x H2 ex p => ?_) (fun H2 p => ?_)⟩
    · obtain ⟨sm, ys, hL, hy⟩ := p
      obtain ⟨r, er, hr1⟩ := Paired.at hp ex
      have hi : i < xs.length := (List.getElem?_eq_some_iff.mp ex).1
      obtain ⟨t, rfl, ht⟩ := RunV.same sm hr1
      have ly := Paired.len hy
      have lc : (cwR (cs.take i) st).length ≤ 12 := by
        unfold cwR
        rw [List.length_map, List.length_take]
        omega
      have en : cwR (cs.take (i + 1)) st = cwR (cs.take i) st ++ [(r.1, if kdV st = .str r.1 then r.2 - numR st else r.2)] := by
        rw [take_snoc er]
        unfold cwR
        rw [List.map_append]
        rfl
      have fin : ∀ c : Int, c = (if kdV st = .str r.1 then r.2 - numR st else r.2) → ∀ n, H2 n = none → ∃ acc, (upd H2 n (.tup [.str r.1, .int c])) L = some (.lst acc) ∧ acc.length < sizeLine ∧ Same H (upd (upd H2 n (.tup [.str r.1, .int c])) L (.lst (acc ++ [.ref n]))) ∧ ∃ ys, (upd (upd H2 n (.tup [.str r.1, .int c])) L (.lst (acc ++ [.ref n]))) L = some (.lst ys) ∧ Paired (RunV (upd (upd H2 n (.tup [.str r.1, .int c])) L (.lst (acc ++ [.ref n])))) ys (cwR (cs.take (i + 1)) st) := by
        intro c ec n nn
        refine ⟨ys, same_upd nn _ _ hL, small (by omega), same_grow nL (sm.trans (same_upd nn)), _, upd_same, ?_⟩
        rw [en, ← ec]
        exact Paired.app (prs_grow (same_upd nn _ _ hL) (prs_same (same_upd nn) hy)) (.cons (RunV.grow (same_upd nn _ _ hL) ⟨n, rfl, upd_same⟩) .nil)
      refine ⟨t, _, rfl, .of ht, rfl, _, _, rfl, _, _, rfl, rfl, rfl, yesT ⟨_, rfl, _, rfl, _, rfl, v, st, rfl, hv.same sm, ?_⟩⟩
      have sc : scal (.str r.1) (kdV st) = true := by cases st <;> rfl
      refine ⟨sc, _, rfl, ite2 (fun e => ?_) (fun e => ?_)⟩
      · have e : V.str r.1 = kdV st := of_decide_eq_true e
        exact ⟨_, rfl, _, rfl, v, st, rfl, hv.same sm, _, _, rfl, rfl, (by show 2 ≤ sizeLine; decide), fun n nn => fin _ (by rw [if_pos e.symm]) n nn⟩
      · have e : ¬ V.str r.1 = kdV st := fun z => e (decide_eq_true z)
        exact ⟨_, rfl, (by show 2 ≤ sizeLine; decide), fun n nn => fin _ (by rw [if_neg fun z => e z.symm]) n nn⟩
    · obtain ⟨sm, ys, hL, hy⟩ := p
      rw [lx, List.take_length] at hy
      exact q H2 L sm nL ⟨ys, hL, hy⟩
/-! majority_in: slots 0:counts 1:total 2:kind 3:count -/
abbrev s_majority_in : Stmt := topS 44
theorem sc_majority_in : FnScope ["counts", "total", "kind", "count"] ["counts"] (defScope s_majority_in) := ⟨rfl, rfl, rfl, by decide +kernel, rfl, by decide +kernel, by decide +kernel⟩
def majR (cs : List Run) : List Run := cs.filter fun r => decide (lenR cs < 2 * r.2)
def sp_majority_in : Sp := fun vs H Q _ => ∃ (a : Addr) (cs : List Run), vs = [.ref a] ∧ Runs H a cs ∧ cs.length ≤ 12 ∧ ∀ H' p, Same H H' → H p = none → Refs H' p (majR cs).length → Q (.ref p) H'
theorem ok_majority_in (D : Df K mg "majority_in" s_majority_in) (G_length_of : Has P w K mg base 1 "length_of" ["runs"] sp_length_of) : Has P w K mg base 2 "majority_in" ["counts"] sp_majority_in := by
  refine has_of D sc_majority_in (fun _ _ _ _ _ _ us hl => match us, hl with | [_], _ => rfl) (fun vs H Q E h => ?_) (fun f cdv A outer s H vs Q E hr h => ?_)
  · obtain ⟨_, _, rfl, _⟩ := h
    rfl
  · obtain ⟨a, cs, rfl, hR, l12, q⟩ := h
    refine ⟨_, (pss_cons (ps_set (i := 1) sc_majority_in.nd rfl (by first | exact Or.inl rfl | exact Or.inr rfl) (pe_callH G_length_of (hr.mono (by omega)) (by rfl) (pa_cons (pv 0) pa_nil)))
    (pss_one (ps_ret (pe_lc (own := [("kind", 2), ("count", 3)]) rfl sc_majority_in.nd (pi_list (pv 0)) (blkOk_by (N := ["counts", "total", "kind", "count"]) (sc := defScope s_majority_in) (by decide +kernel)) (fun _ _ _ _ _ => (pg_tupK (K := K) (n := 2) rfl rfl (pgs_cons (pg_name (i := 2) sc_majority_in.nd rfl (by first | exact Or.inl rfl | exact Or.inr rfl)) (pgs_cons (pg_name (i := 3) sc_majority_in.nd rfl (by first | exact Or.inl rfl | exact Or.inr rfl)) pgs_nil)))) (fun _ _ _ _ _ => pts_one (pt_cmpR op_gt (pe_op op_mul pe_int (pv 3)) (pv 1) (nomark _))) (fun _ _ _ _ _ => (pe_tup (pa_cons pe_str (pa_cons (pv 2) (pa_cons (pv 3) (pa_cons (pv 1) pa_nil)))))))))), ?_⟩
    refine ⟨_, rfl, a, cs, rfl, hR, by omega, fun H1 s1 => ?_⟩
    obtain ⟨xs, hx, hp⟩ := hR.same s1
    have lx : xs.length = cs.length := Paired.len hp
    refine ⟨_, rfl, a, rfl, ⟨xs, .of hx⟩, fun L nL => lc_list (K := K) (a := a) (xs := xs) (fun i H' => Same H1 H' ∧ Refs H' L ((cs.take i).filter fun r => decide (lenR cs < 2 * r.2)).length) ⟨same_upd nL, [], upd_same, rfl, fun x h => by cases h⟩ (fun i H' _ p => .of (p.1 _ _ hx)) (fun i x H2 ex p => ?_) (fun H2 p => ?_)⟩
    · obtain ⟨sm, ys, hL, ly, rf⟩ := p
      obtain ⟨r, er, hr1⟩ := Paired.at hp ex
      have hi : i < xs.length := (List.getElem?_eq_some_iff.mp ex).1
      obtain ⟨t, rfl, ht⟩ := RunV.same sm hr1
      have lf := List.length_filter_le (fun r : Run => decide (lenR cs < 2 * r.2)) (cs.take i)
      rw [List.length_take] at lf
      rw [take_snoc er, List.filter_append, List.length_append]
      refine ⟨t, _, rfl, .of ht, rfl, _, _, rfl, _, _, rfl, rfl, rfl, _, rfl, _, _, rfl, rfl, .inl ⟨by decide, by decide⟩, _, rfl, _, _, rfl, rfl, _, rfl, ite2 (fun e => ?_) (fun e => ?_)⟩
      · have e : lenR cs < 2 * r.2 := of_decide_eq_true e
        refine ⟨_, rfl, _, rfl, _, rfl, (by show 4 ≤ sizeLine; decide), fun n nn => ⟨_, same_upd nn _ _ hL, small (by omega), same_grow nL (sm.trans (same_upd nn)), _, upd_same, ?_, fun x hx => ?_⟩⟩
        · rw [List.length_append, ly, List.filter_cons, if_pos (decide_eq_true e)]
          rfl
        · rcases List.mem_append.mp hx with h | h
          · exact ((rf x h).same (same_upd nn)).grow (same_upd nn _ _ hL)
          · exact RefT.grow (same_upd nn _ _ hL) ⟨n, _, List.mem_singleton.mp h, upd_same, flat_of (Nat.le_of_ble_eq_true rfl) rfl⟩
      · have e : ¬ lenR cs < 2 * r.2 := fun z => e (decide_eq_true z)
        refine ⟨sm, ys, hL, ?_, rf⟩
        rw [ly, List.filter_cons, if_neg (by rw [decide_eq_false e]; decide)]
        rfl
    · obtain ⟨sm, rf⟩ := p
      rw [lx, List.take_length] at rf
      exact q H2 L (s1.trans sm) (s1.free nL) rf
end
end UP

set_option Elab.async false
set_option linter.all false
set_option maxRecDepth 100000
set_option maxHeartbeats 4000000
namespace UP
open PySem PySem.Spec PyProof.Rows L2
def CanR (cs : List Run) (st : Option Run) : Prop := (∀ r, st = some r → r.1 ∈ cs.map (·.1)) ∧ (∀ r ∈ cs, kdV st = .str r.1 → numR st ≤ r.2) ∧ lenR (cwR cs st) % 2 = 0 ∧ ∀ r ∈ cwR cs st, 2 * r.2 ≤ lenR (cwR cs st)
def fewP (st : Option Run) (r : Run) : Bool := decide (V.str r.1 = kdV st) && decide (r.2 < numR st)
theorem cw_len (cs : List Run) (st : Option Run) : (cwR cs st).length = cs.length := by
  unfold cwR
  rw [List.length_map]
theorem filter_zero {α : Type} {p : α → Bool} {l : List α} : (l.filter p).length = 0 ↔ ∀ x ∈ l, p x = false := by
  rw [List.length_eq_zero_iff, List.filter_eq_nil_iff]
  refine ⟨fun h x hx => ?_, fun h x hx => ?_⟩
  · cases e : p x with
    | false => rfl
    | true => exact absurd e (h x hx)
  · rw [h x hx]
    decide
theorem can_iff {cs : List Run} {st : Option Run} {f m k : Nat} (kn : ∀ r, st = some r → r.1 ∈ cs.map (·.1)) (hf : f = (cs.filter (fewP st)).length) (hm : m = (majR (cwR cs st)).length) (hk : k = 0 ↔ lenR (cwR cs st) % 2 ≠ 1) : f + k + (if f = 0 then m else 0) = 0 ↔ CanR cs st := by
  have e1 : f = 0 ↔ ∀ r ∈ cs, kdV st = .str r.1 → numR st ≤ r.2 := by
    rw [hf, filter_zero]
    refine forall_congr' fun r => forall_congr' fun hr => ?_
    unfold fewP
    constructor
    · intro h e
      rw [decide_eq_true e.symm, Bool.true_and] at h
      have := of_decide_eq_false h
      omega
    · intro h
      by_cases e : V.str r.1 = kdV st
      · rw [decide_eq_true e, Bool.true_and, decide_eq_false (by have := h e.symm; omega)]
      · rw [decide_eq_false e, Bool.false_and]
  have e2 : m = 0 ↔ ∀ r ∈ cwR cs st, 2 * r.2 ≤ lenR (cwR cs st) := by
    rw [hm]
    unfold majR
    rw [filter_zero]
    refine forall_congr' fun r => forall_congr' fun hr => ?_
    constructor
    · intro h
      have := of_decide_eq_false h
      omega
    · intro h
      exact decide_eq_false (by omega)
  unfold CanR
  constructor
  · intro h
    have f0 : f = 0 := by omega
    rw [if_pos f0] at h
    exact ⟨kn, e1.mp f0, by have := hk.mp (by omega); omega, e2.mp (by omega)⟩
  · rintro ⟨_, h1, h2, h3⟩
    have f0 := e1.mpr h1
    have k0 := hk.mpr (by omega)
    have m0 := e2.mpr h3
    rw [if_pos f0]
    omega
section
variable {P : Program} {w : World} {K : PySem.W.Frag} {mg : Str → Option Value} {base : Heap}
/-! reasons_in: slots 0:counts 1:state 2:others 3:total 4:parity 5:few 6:kind 7:count -/
abbrev s_reasons_in : Stmt := topS 45
theorem sc_reasons_in : FnScope ["counts", "state", "others", "total", "parity", "few", "kind", "count"] ["counts", "state"] (defScope s_reasons_in) := ⟨rfl, rfl, rfl, by decide +kernel, rfl, by decide +kernel, by decide +kernel⟩
def sp_reasons_in : Sp := fun vs H Q _ => ∃ (a : Addr) (cs : List Run) (v : V) (st : Option Run), vs = [.ref a, v] ∧ Runs H a cs ∧ cs.length ≤ 12 ∧ StV H v st ∧ ∀ H' p n, Same H H' → H p = none → Refs H' p n → (n = 0 ↔ CanR cs st) → Q (.ref p) H'
theorem ok_reasons_in (D : Df K mg "reasons_in" s_reasons_in) (T : Tx mg) (G_counts_without : Has P w K mg base 2 "counts_without" ["counts", "state"] sp_counts_without) (G_length_of : Has P w K mg base 1 "length_of" ["runs"] sp_length_of) (G_kind_of : Has P w K mg base 1 "kind_of" ["state"] sp_kind_of) (G_waiting_number : Has P w K mg base 1 "waiting_number" ["state"] sp_waiting_number) (G_majority_in : Has P w K mg base 2 "majority_in" ["counts"] sp_majority_in) : Has P w K mg base 3 "reasons_in" ["counts", "state"] sp_reasons_in := by
  refine has_of D sc_reasons_in (fun _ _ _ _ _ _ us hl => match us, hl with | [_, _], _ => rfl) (fun vs H Q E h => ?_) (fun f cdv A outer s H vs Q E hr h => ?_)
  · obtain ⟨_, _, _, _, rfl, _⟩ := h
    rfl
  · obtain ⟨a, cs, v, st, rfl, hR, l12, hv, q⟩ := h
    have hR0 := hR
    obtain ⟨xs, hx, hp⟩ := hR
    have lx : xs.length = cs.length := Paired.len hp
    refine ⟨_, (C8.pss_cut (ps_if (PW.pt (pw_and (pt_cmpR op_notN (pv 1) pe_non (nomark _)) (pw_and1 (pt_cmpR op_notIn_seq (pe_ix ix_tup (pv 1) pe_int (fun _ _ => rfl)) (pe_lc (own := [("kind", 6), ("count", 7)]) rfl sc_reasons_in.nd (pi_list (pv 0)) (blkOk_by (N := ["counts", "state", "others", "total", "parity", "few", "kind", "count"]) (sc := defScope s_reasons_in) (by decide +kernel)) (fun _ _ _ _ _ => (pg_tupK (K := K) (n := 2) rfl rfl (pgs_cons (pg_name (i := 6) sc_reasons_in.nd rfl (by first | exact Or.inl rfl | exact Or.inr rfl)) (pgs_cons (pg_name (i := 7) sc_reasons_in.nd rfl (by first | exact Or.inl rfl | exact Or.inr rfl)) pgs_nil)))) (fun _ _ _ _ _ => pts_nil) (fun _ _ _ _ _ => (pv 6))) (by with_unfolding_all rfl))))) (pss_one (ps_ret (pe_lst (pa_cons (pe_tup (pa_cons pe_str (pa_cons (pe_ix ix_tup (pv 1) pe_int (fun _ _ => rfl)) pa_nil))) pa_nil)))) pss_nil)
    (pss_cons (ps_set (i := 2) sc_reasons_in.nd rfl (by first | exact Or.inl rfl | exact Or.inr rfl) (pe_callH G_counts_without (hr.mono (by omega)) (by rfl) (pa_cons (pv 0) (pa_cons (pv 1) pa_nil))))
    (pss_cons (ps_set (i := 3) sc_reasons_in.nd rfl (by first | exact Or.inl rfl | exact Or.inr rfl) (pe_callH G_length_of (hr.mono (by omega)) (by rfl) (pa_cons (pv 2) pa_nil)))
    (C8.pss_cut (ps_set (i := 4) sc_reasons_in.nd rfl (by first | exact Or.inl rfl | exact Or.inr rfl) (pe_ifExp (pt_cmpR op_eq (pe_op op_mod (pv 3) pe_int) pe_int (nomark _)) (pe_lst (pa_cons (pe_tup (pa_cons pe_str (pa_cons (pv 3) pa_nil))) pa_nil)) (pe_lst pa_nil)))
    (pss_cons (ps_setLc (i := 5) (own := [("kind", 6), ("count", 7)]) rfl sc_reasons_in.nd rfl rfl (sw_true rfl rfl rfl (by decide +kernel)) (pi_list (pv 0)) (blkOk_by (N := ["counts", "state", "others", "total", "parity", "few", "kind", "count"]) (sc := defScope s_reasons_in) (by decide +kernel)) (fun _ _ _ _ _ => (pg_tupK (K := K) (n := 2) rfl rfl (pgs_cons (pg_name (i := 6) sc_reasons_in.nd rfl (by first | exact Or.inl rfl | exact Or.inr rfl)) (pgs_cons (pg_name (i := 7) sc_reasons_in.nd rfl (by first | exact Or.inl rfl | exact Or.inr rfl)) pgs_nil)))) (fun _ _ _ _ _ => pts_one (PW.pt (pw_and (pt_cmpR op_eq (pv 6) (pe_callH G_kind_of (hr.mono (by omega)) (by rfl) (pa_cons (pv 1) pa_nil)) (nomark _)) (pw_and1 (pt_cmpR op_lt (pv 7) (pe_callH G_waiting_number (hr.mono (by omega)) (by rfl) (pa_cons (pv 1) pa_nil)) (nomark _)))))) (fun _ _ _ _ _ => (pe_tup (pa_cons pe_str (pa_cons (pv 7) pa_nil)))))
    (pss_one (ps_ret (pe_op op_cat (pe_op op_cat (pv 5) (pv 4)) (pe_ifExp (pt_truth (pv 5) (by intro _; rfl)) (pe_lst pa_nil) (pe_callH G_majority_in (hr.mono (by omega)) (by rfl) (pa_cons (pv 2) pa_nil))))))))))), ?_⟩
    refine ⟨fun σ' H' => σ' = [some (.ref a), some v, none, none, none, none, none, none] ∧ Same H H' ∧ ∀ r, st = some r → r.1 ∈ cs.map (·.1), ?_, fun σ' H1 hM => ?_⟩
    · cases st with
      | none =>
        obtain rfl := hv
        exact ⟨_, rfl, rfl, _, rfl, iteN rfl (iteF ⟨rfl, Same.refl _, fun r h => by cases h⟩)⟩
      | some r =>
        obtain ⟨t, rfl, ht⟩ := hv
        refine ⟨_, rfl, rfl, _, rfl, iteP rfl ⟨_, rfl, t, _, 0, _, rfl, rfl, .of ht, at0, _, rfl, a, rfl, ⟨xs, .of hx⟩, fun L nL => lc_list (K := K) (a := a) (xs := xs) (fun i H' => Same H H' ∧ H' L = some (.lst (((cs.take i).map (·.1)).map V.str))) ⟨same_upd nL, upd_same⟩ (fun i H' _ p => .of (p.1 _ _ hx)) (fun i x H2 ex p => ?_) (fun H2 p => ?_)⟩⟩
        · obtain ⟨sm, hL⟩ := p
          obtain ⟨c, er, hr1⟩ := Paired.at hp ex
          have hi : i < xs.length := (List.getElem?_eq_some_iff.mp ex).1
          obtain ⟨tc, rfl, htc⟩ := RunV.same sm hr1
          refine ⟨tc, _, rfl, .of htc, rfl, _, _, rfl, _, _, rfl, rfl, rfl, yesT ⟨_, rfl, _, hL, ?_, same_grow nL sm, ?_⟩⟩
          · rw [List.length_map, List.length_map, List.length_take]
            exact small (by omega)
          · rw [upd_same, take_snoc er, List.map_append, List.map_append]
            rfl
        · obtain ⟨sm, hL⟩ := p
          rw [lx, List.take_length] at hL
          have fl : ((cs.map (·.1)).map V.str).all flatV = true := by
            rw [List.all_eq_true]
            intro x hx
            obtain ⟨k, _, rfl⟩ := List.mem_map.mp hx
            rfl
          refine ⟨L, _, rfl, .inl (.of hL), rfl, fl, _, rfl, ?_⟩
          by_cases c : r.1 ∈ cs.map (·.1)
          · have e1 : inV (.str r.1) ((cs.map (·.1)).map V.str) = true := by
              unfold inV
              rw [List.any_eq_true]
              refine ⟨.str r.1, List.mem_map.mpr ⟨r.1, c, rfl⟩, ?_⟩
              show (r.1 == r.1) = true
              simp
            exact iteN (by rw [e1]; rfl) ⟨rfl, sm, fun r' h => by cases h; exact c⟩
          · have e1 : inV (.str r.1) ((cs.map (·.1)).map V.str) = false := by
              unfold inV
              rw [List.any_eq_false]
              intro x hx h
              obtain ⟨k, hk, rfl⟩ := List.mem_map.mp hx
              have h : (k == r.1) = true := h
              have := eq_of_beq h
              rw [this] at hk
              exact c hk
            refine iteP (by rw [e1]; rfl) ⟨_, rfl, t, _, 0, _, rfl, rfl, .of (sm _ _ ht), at0, (by show 2 ≤ sizeLine; decide), fun n nn => ⟨(by show 1 ≤ sizeLine; decide), fun p np => ?_⟩⟩
            refine q _ p 1 (sm.trans ((same_upd nn).trans (same_upd np))) (sm.free ((same_upd nn).free np)) ⟨_, upd_same, rfl, fun x hx => ⟨n, _, List.mem_singleton.mp hx, same_upd np _ _ upd_same, flat_of (Nat.le_of_ble_eq_true rfl) rfl⟩⟩ ⟨fun z => (by cases z), fun z => absurd (z.1 r rfl) c⟩
    obtain ⟨rfl, s1, kn⟩ := hM
    refine ⟨_, rfl, _, rfl, a, cs, v, st, rfl, hR0.same s1, l12, hv.same s1, fun H2 p2 s2 n2 h2 => ?_⟩
    refine ⟨_, rfl, p2, _, rfl, h2, by rw [cw_len]; omega, fun H3 s3 => ?_⟩
    have h3 := h2.same s3
    have sA := s1.trans (s2.trans s3)
    refine ⟨fun σ' H' => ∃ pp k, σ' = [some (.ref a), some v, some (.ref p2), some (.int (lenR (cwR cs st))), some (.ref pp), none, none, none] ∧ Same H3 H' ∧ Refs H' pp k ∧ k ≤ 1 ∧ (k = 0 ↔ lenR (cwR cs st) % 2 ≠ 1), ?_, fun σ' H4 hM => ?_⟩
    · refine ⟨_, rfl, _, _, rfl, rfl, (by show (0 : Int) < 2; decide), rfl, _, rfl, ite2 (fun e => ?_) (fun e => ?_)⟩
      · have e : lenR (cwR cs st) % 2 = 1 := V.int.inj (of_decide_eq_true e)
        refine ⟨_, rfl, (by show 2 ≤ sizeLine; decide), fun n nn => ⟨(by show 1 ≤ sizeLine; decide), fun p np => ⟨p, 1, rfl, (same_upd nn).trans (same_upd np), ⟨_, upd_same, rfl, fun x hx => ⟨n, _, List.mem_singleton.mp hx, same_upd np _ _ upd_same, flat_of (Nat.le_of_ble_eq_true rfl) rfl⟩⟩, Nat.le_refl _, ⟨fun z => (by cases z), fun z => absurd e z⟩⟩⟩⟩
      · have e : ¬ lenR (cwR cs st) % 2 = 1 := fun z => e (decide_eq_true (by show V.int (lenR (cwR cs st) % 2) = V.int 1; rw [z]))
        exact ⟨Nat.zero_le _, fun p np => ⟨p, 0, rfl, same_upd np, ⟨_, upd_same, rfl, fun x hx => by cases hx⟩, Nat.zero_le _, ⟨fun _ => e, fun _ => rfl⟩⟩⟩
    obtain ⟨pp, k, rfl, s4, hpp, k1, hk⟩ := hM
    have sB := sA.trans s4
    have h4 := h3.same s4
    have hx4 := sB _ _ hx
    have hv4 := hv.same sB
    refine ⟨_, rfl, a, rfl, ⟨xs, .of hx4⟩, fun F nF => lc_list (K := K) (a := a) (xs := xs) (fun i H' => Same H4 H' ∧ Refs H' F ((cs.take i).filter (fewP st)).length) ⟨same_upd nF, [], upd_same, rfl, fun x h => by cases h⟩ (fun i H' _ p => .of (p.1 _ _ hx4)) (fun i x H5 ex p => ?_) (fun H5 p => ?_)⟩
    · obtain ⟨s5, ys, hF, ly, rf⟩ := p
      obtain ⟨r, er, hr1⟩ := Paired.at hp ex
      have hi : i < xs.length := (List.getElem?_eq_some_iff.mp ex).1
      obtain ⟨t, rfl, ht⟩ := RunV.same (sB.trans s5) hr1
      have lf := List.length_filter_le (fewP st) (cs.take i)
      rw [List.length_take] at lf
      rw [take_snoc er, List.filter_append, List.length_append]
      have sc : scal (.str r.1) (kdV st) = true := by cases st <;> rfl
      have skip : fewP st r = false → Same H4 H5 ∧ Refs H5 F (((cs.take i).filter (fewP st)).length + ([r].filter (fewP st)).length) := fun e => by
        refine ⟨s5, ys, hF, ?_, rf⟩
        rw [ly, List.filter_cons, if_neg (by rw [e]; decide)]
        rfl
      refine ⟨t, _, rfl, .of ht, rfl, _, _, rfl, _, _, rfl, rfl, rfl, _, rfl, _, rfl, v, st, rfl, hv4.same s5, sc, _, rfl, ite2 (fun e => ?_) (fun e => iteF (skip ?_))⟩
      · have e : V.str r.1 = kdV st := of_decide_eq_true e
        refine ⟨_, rfl, _, rfl, v, st, rfl, hv4.same s5, _, _, rfl, rfl, _, rfl, ite2 (fun g => ?_) (fun g => skip ?_)⟩
        · have g : r.2 < numR st := of_decide_eq_true g
          have fp : fewP st r = true := by
            unfold fewP
            rw [decide_eq_true e, decide_eq_true g]
            rfl
          refine ⟨_, rfl, (by show 2 ≤ sizeLine; decide), fun n nn => ⟨_, same_upd nn _ _ hF, small (by omega), same_grow nF (s5.trans (same_upd nn)), _, upd_same, ?_, fun x hx => ?_⟩⟩
          · rw [List.length_append, ly, List.filter_cons, if_pos fp]
            rfl
          · rcases List.mem_append.mp hx with h | h
            · exact ((rf x h).same (same_upd nn)).grow (same_upd nn _ _ hF)
            · exact RefT.grow (same_upd nn _ _ hF) ⟨n, _, List.mem_singleton.mp h, upd_same, flat_of (Nat.le_of_ble_eq_true rfl) rfl⟩
        · have g : ¬ r.2 < numR st := fun z => g (decide_eq_true z)
          unfold fewP
          rw [decide_eq_false g, Bool.and_false]
      · have e : ¬ V.str r.1 = kdV st := fun z => e (decide_eq_true z)
        unfold fewP
        rw [decide_eq_false e, Bool.false_and]
    · obtain ⟨s5, hF⟩ := p
      rw [lx, List.take_length] at hF
      have lf := List.length_filter_le (fewP st) cs
      obtain ⟨fs, hfs, lfs, rfs⟩ := hF
      obtain ⟨ps, hps, lps, rps⟩ := hpp.same s5
      refine ⟨_, rfl, _, rfl, F, pp, _, _, rfl, rfl, hfs, hps, Nat.le_of_lt (small (by omega)), fun q1 nq1 => ?_⟩
      have s6 := same_upd (o := .lst (fs ++ ps)) nq1
      have sC := sB.trans (s5.trans s6)
      have free : ∀ {p : Addr}, (upd H5 q1 (.lst (fs ++ ps))) p = none → H p = none := fun z => sC.free z
      refine ⟨_, rfl, !fs.isEmpty, .inl ⟨fs, .of (s6 _ _ hfs), rfl⟩, ?_⟩
      have hm : (majR (cwR cs st)).length ≤ 12 := by
        unfold majR
        have := List.length_filter_le (fun r : Run => decide (lenR (cwR cs st) < 2 * r.2)) (cwR cs st)
        rw [cw_len] at this
        omega
      by_cases fe : fs = []
      · refine iteN (by rw [fe]; rfl) ⟨_, rfl, p2, _, rfl, (h4.same s5).same s6, by rw [cw_len]; exact l12, fun H7 p7 s7 n7 h7 => ?_⟩
        obtain ⟨ms, hms, lms, rms⟩ := h7
        refine ⟨q1, p7, _, _, rfl, rfl, s7 _ _ upd_same, hms, Nat.le_of_lt (small (by rw [List.length_append]; omega)), fun p np => ?_⟩
        have s8 := same_upd (o := .lst ((fs ++ ps) ++ ms)) np
        refine q _ p _ (sC.trans (s7.trans s8)) (sC.free (s7.free np)) ⟨_, upd_same, rfl, fun x hx => ?_⟩ ?_
        · rcases List.mem_append.mp hx with h | h
          · rcases List.mem_append.mp h with h | h
            · exact (rfs x h).same (s6.trans (s7.trans s8))
            · exact (rps x h).same (s6.trans (s7.trans s8))
          · exact (rms x h).same s8
        · have := can_iff (f := fs.length) (k := k) kn lfs rfl hk
          rw [List.length_append, List.length_append, lps, lms, ← this, if_pos (by rw [fe]; rfl)]
      · have ne : (!fs.isEmpty) = true := by
          cases fs with
          | nil => exact absurd rfl fe
          | cons y ys => rfl
        refine iteP ne ⟨Nat.zero_le _, fun e1 ne1 => ?_⟩
        have s7 := same_upd (o := .lst []) ne1
        refine ⟨q1, e1, _, _, rfl, rfl, s7 _ _ upd_same, upd_same, Nat.le_of_lt (small (by rw [List.length_append, List.length_nil]; omega)), fun p np => ?_⟩
        have s8 := same_upd (o := .lst ((fs ++ ps) ++ [])) np
        refine q _ p _ (sC.trans (s7.trans s8)) (sC.free (s7.free np)) ⟨_, upd_same, rfl, fun x hx => ?_⟩ ?_
        · rw [List.append_nil] at hx
          rcases List.mem_append.mp hx with h | h
          · exact (rfs x h).same (s6.trans (s7.trans s8))
          · exact (rps x h).same (s6.trans (s7.trans s8))
        · have := can_iff (f := fs.length) (k := k) kn lfs rfl hk
          rw [List.append_nil, List.length_append, lps, ← this, if_neg (fun z => fe (List.length_eq_zero_iff.mp z)), Nat.add_zero]
end
end UP

set_option Elab.async false
set_option linter.all false
set_option maxRecDepth 100000
set_option maxHeartbeats 4000000
namespace UP
open PySem PySem.Spec PyProof.Rows L2
/-! ### ranges -/
def ownR (cs : List Run) (k : Str) : Int := lenR (cs.filter fun r => decide (V.str r.1 = V.str k))
def lgR : List Run → Str → Int
  | [], _ => 0
  | r :: t, k => if r.1 = k then lgR t k else if lgR t k < r.2 then r.2 else lgR t k
theorem lg_nn : ∀ (cs : List Run) (k : Str), 0 ≤ lgR cs k
  | [], _ => Int.le_refl _
  | r :: t, k => by
    have := lg_nn t k
    show 0 ≤ if r.1 = k then lgR t k else if lgR t k < r.2 then r.2 else lgR t k
    split
    · exact this
    · split <;> omega
theorem lg_ub : ∀ (cs : List Run) (k : Str), ∀ r ∈ cs, r.1 ≠ k → r.2 ≤ lgR cs k
  | [], _, r, h, _ => by cases h
  | x :: t, k, r, h, n => by
    show r.2 ≤ if x.1 = k then lgR t k else if lgR t k < x.2 then x.2 else lgR t k
    rcases List.mem_cons.mp h with e | e
    · subst e
      rw [if_neg n]
      split <;> omega
    · have := lg_ub t k r e n
      split
      · exact this
      · split <;> omega
theorem lg_mem : ∀ (cs : List Run) (k : Str), lgR cs k = 0 ∨ ∃ r ∈ cs, r.1 ≠ k ∧ r.2 = lgR cs k
  | [], _ => .inl rfl
  | x :: t, k => by
    have ih := lg_mem t k
    have e : lgR (x :: t) k = if x.1 = k then lgR t k else if lgR t k < x.2 then x.2 else lgR t k := rfl
    rw [e]
    have up : (lgR t k = 0 ∨ ∃ r ∈ t, r.1 ≠ k ∧ r.2 = lgR t k) → lgR t k = 0 ∨ ∃ r ∈ x :: t, r.1 ≠ k ∧ r.2 = lgR t k := fun h => h.elim .inl fun ⟨r, hr, h⟩ => .inr ⟨r, List.mem_cons_of_mem _ hr, h⟩
    by_cases c : x.1 = k
    · rw [if_pos c]
      exact up ih
    · rw [if_neg c]
      by_cases d : lgR t k < x.2
      · rw [if_pos d]
        exact .inr ⟨x, List.mem_cons_self .., c, rfl⟩
      · rw [if_neg d]
        exact up ih
def leR (cs : List Run) (k : Str) : Int := if 2 - lenR cs % 2 > 2 * ownR cs k - lenR cs then 2 - lenR cs % 2 else 2 * ownR cs k - lenR cs
def moR (cs : List Run) (k : Str) : Int := if lenR cs - 2 * lgR cs k < ownR cs k - (lenR cs - ownR cs k) % 2 then lenR cs - 2 * lgR cs k else ownR cs k - (lenR cs - ownR cs k) % 2
def rgO (cs : List Run) (k : Str) : Option (Int × Int) := if leR cs k ≤ moR cs k then some (leR cs k, moR cs k) else none
/-! ### one kind among them -/
theorem asc_lt : ∀ {cs : List Run}, Asc cs → ∀ (i j : Nat) (x y : Run), i < j → cs[i]? = some x → cs[j]? = some y → x.1.cps.toList < y.1.cps.toList := by
  intro cs h i j x y lt hx hy
  induction j generalizing y with
  | zero => omega
  | succ j ih =>
    have hj : j < cs.length := by
      have := (List.getElem?_eq_some_iff.mp hy).1
      omega
    by_cases e : i = j
    · subst e
      exact h i x y hx hy
    · have h1 := ih (cs[j]) (by omega) (List.getElem?_eq_getElem hj)
      exact List.lt_trans h1 (h j _ y (List.getElem?_eq_getElem hj) hy)
theorem asc_ne {cs : List Run} (h : Asc cs) {i j : Nat} {x y : Run} (ne : i ≠ j) (hx : cs[i]? = some x) (hy : cs[j]? = some y) : x.1 ≠ y.1 := by
  intro e
  rcases Nat.lt_or_gt_of_ne ne with lt | lt
  · have := asc_lt h i j x y lt hx hy
    rw [e] at this
    exact List.lt_irrefl _ this
  · have := asc_lt h j i y x lt hy hx
    rw [e] at this
    exact List.lt_irrefl _ this
/-- the counts around one kind -/
structure Split (cs : List Run) (k : Str) (pre : List Run) (c : Int) (post : List Run) : Prop where
  eq : cs = pre ++ (k, c) :: post
  pre : ∀ r ∈ pre, r.1 ≠ k
  post : ∀ r ∈ post, r.1 ≠ k
theorem split_of {cs : List Run} (h : Asc cs) {r : Run} (hr : r ∈ cs) : ∃ pre post, Split cs r.1 pre r.2 post := by
  obtain ⟨i, hi, e⟩ := List.mem_iff_getElem.mp hr
  have hx : cs[i]? = some r := by rw [List.getElem?_eq_getElem hi, e]
  refine ⟨cs.take i, cs.drop (i + 1), ?_, fun x hx2 => ?_, fun x hx2 => ?_⟩
  · have := List.take_append_drop i cs
    rw [List.drop_eq_getElem_cons hi, e] at this
    exact this.symm
  · obtain ⟨j, hj, ej⟩ := List.mem_iff_getElem.mp hx2
    rw [List.length_take] at hj
    have : cs[j]? = some x := by
      rw [← ej, List.getElem?_eq_getElem (by omega), List.getElem_take]
    exact asc_ne h (by omega) this hx
  · obtain ⟨j, hj, ej⟩ := List.mem_iff_getElem.mp hx2
    rw [List.length_drop] at hj
    have : cs[i + 1 + j]? = some x := by
      rw [← ej, List.getElem?_eq_getElem (by omega), List.getElem_drop]
    exact asc_ne h (by omega) this hx
theorem own_none : ∀ {l : List Run} {k : Str}, (∀ r ∈ l, r.1 ≠ k) → l.filter (fun r => decide (V.str r.1 = V.str k)) = [] := by
  intro l k h
  rw [List.filter_eq_nil_iff]
  intro r hr z
  exact h r hr (V.str.inj (of_decide_eq_true z))
theorem Split.own {cs : List Run} {k : Str} {pre post : List Run} {c : Int} (h : Split cs k pre c post) : ownR cs k = c := by
  unfold ownR
  rw [h.eq, List.filter_append, List.filter_cons, if_pos (decide_eq_true rfl), own_none h.pre, own_none h.post, List.nil_append, lenR_cons, lenR_nil]
  show c + 0 = c
  omega
theorem Split.tot {cs : List Run} {k : Str} {pre post : List Run} {c : Int} (h : Split cs k pre c post) : lenR cs = lenR pre + c + lenR post := by
  rw [h.eq, lenR_app, lenR_cons]
  show lenR pre + (c + lenR post) = _
  omega
theorem cw_none {l : List Run} {k : Str} {n : Int} (h : ∀ r ∈ l, r.1 ≠ k) : cwR l (some (k, n)) = l := by
  unfold cwR
  have : ∀ r ∈ l, (r.1, if kdV (some (k, n)) = .str r.1 then r.2 - numR (some (k, n)) else r.2) = r := fun r hr => by
    rw [if_neg (show ¬ kdV (some (k, n)) = .str r.1 from fun z => h r hr (V.str.inj z).symm)]
  rw [List.map_congr_left this, List.map_id']
theorem Split.cw {cs : List Run} {k : Str} {pre post : List Run} {c n : Int} (h : Split cs k pre c post) : cwR cs (some (k, n)) = pre ++ (k, c - n) :: post := by
  have e : cwR cs (some (k, n)) = cwR pre (some (k, n)) ++ (k, if kdV (some (k, n)) = .str k then c - numR (some (k, n)) else c) :: cwR post (some (k, n)) := by
    rw [h.eq]
    unfold cwR
    rw [List.map_append, List.map_cons]
  rw [e, cw_none h.pre, cw_none h.post, if_pos (show kdV (some (k, n)) = .str k from rfl)]
  rfl
theorem Split.lenc {cs : List Run} {k : Str} {pre post : List Run} {c n : Int} (h : Split cs k pre c post) : lenR (cwR cs (some (k, n))) = lenR cs - n := by
  rw [h.cw, h.tot, lenR_app, lenR_cons]
  show lenR pre + (c - n + lenR post) = _
  omega
/-- which numbers of a kind can remain -/
theorem Split.can {cs : List Run} {k : Str} {pre post : List Run} {c n : Int} (h : Split cs k pre c post) (n1 : 1 ≤ n) : CanR cs (some (k, n)) ↔ n ≤ c ∧ (lenR cs - n) % 2 = 0 ∧ 2 * (c - n) ≤ lenR cs - n ∧ ∀ r ∈ cs, r.1 ≠ k → 2 * r.2 ≤ lenR cs - n := by
  unfold CanR
  rw [h.lenc]
  constructor
  · rintro ⟨_, h2, h3, h4⟩
    refine ⟨h2 (k, c) (by rw [h.eq]; exact List.mem_append.mpr (.inr (List.mem_cons_self ..))) rfl, h3, ?_, fun r hr rk => ?_⟩
    · have := h4 (k, c - n) (by rw [h.cw]; exact List.mem_append.mpr (.inr (List.mem_cons_self ..)))
      exact this
    · refine h4 r ?_
      rw [h.cw]
      rw [h.eq] at hr
      rcases List.mem_append.mp hr with z | z
      · exact List.mem_append.mpr (.inl z)
      · rcases List.mem_cons.mp z with z | z
        · rw [z] at rk
          exact absurd rfl rk
        · exact List.mem_append.mpr (.inr (List.mem_cons_of_mem _ z))
  · rintro ⟨h1, h2, h3, h4⟩
    refine ⟨fun r e => ?_, fun r hr e => ?_, h2, fun r hr => ?_⟩
    · cases e
      rw [h.eq, List.map_append, List.map_cons]
      exact List.mem_append.mpr (.inr (List.mem_cons_self ..))
    · have e : k = r.1 := V.str.inj e
      show n ≤ r.2
      rw [h.eq] at hr
      rcases List.mem_append.mp hr with z | z
      · exact absurd e.symm (h.pre r z)
      · rcases List.mem_cons.mp z with z | z
        · rw [z]
          exact h1
        · exact absurd e.symm (h.post r z)
    · rw [h.cw] at hr
      have inr : ∀ r, r ∈ pre ∨ r ∈ post → r ∈ cs := fun r z => by
        rw [h.eq]
        exact z.elim (fun z => List.mem_append.mpr (.inl z)) (fun z => List.mem_append.mpr (.inr (List.mem_cons_of_mem _ z)))
      rcases List.mem_append.mp hr with z | z
      · exact h4 r (inr r (.inl z)) (h.pre r z)
      · rcases List.mem_cons.mp z with z | z
        · rw [z]
          exact h3
        · exact h4 r (inr r (.inr z)) (h.post r z)
theorem len_ge {l : List Run} (h : ∀ r ∈ l, 1 ≤ r.2) : 0 ≤ lenR l := lenR_nn h
/-- the range of a kind says which of its numbers can remain -/
theorem Split.range {cs : List Run} {k : Str} {pre post : List Run} {c n : Int} (h : Split cs k pre c post) (pos : ∀ r ∈ cs, 1 ≤ r.2) (n1 : 1 ≤ n) : CanR cs (some (k, n)) ↔ leR cs k ≤ n ∧ n ≤ moR cs k ∧ (lenR cs - n) % 2 = 0 := by
  rw [h.can n1]
  unfold leR moR
  rw [h.own]
  have lg : (∀ r ∈ cs, r.1 ≠ k → 2 * r.2 ≤ lenR cs - n) ↔ (2 * lgR cs k ≤ lenR cs - n ∨ (lgR cs k = 0 ∧ ∀ r ∈ cs, r.1 ≠ k → 2 * r.2 ≤ lenR cs - n)) := by
    constructor
    · intro z
      rcases lg_mem cs k with e | ⟨r, hr, rk, e⟩
      · exact .inr ⟨e, z⟩
      · have := z r hr rk
        exact .inl (by omega)
    · intro z
      rcases z with z | z
      · intro r hr rk
        have := lg_ub cs k r hr rk
        omega
      · exact z.2
  have tp : 0 ≤ lenR pre + lenR post := by
    have h1 := len_ge (l := pre) fun r hr => pos r (by rw [h.eq]; exact List.mem_append.mpr (.inl hr))
    have h2 := len_ge (l := post) fun r hr => pos r (by rw [h.eq]; exact List.mem_append.mpr (.inr (List.mem_cons_of_mem _ hr)))
    omega
  have ht := h.tot
  constructor
  · rintro ⟨h1, h2, h3, h4⟩
    have h5 : 2 * lgR cs k ≤ lenR cs - n := by
      rcases lg.mp h4 with z | ⟨z, _⟩
      · exact z
      · omega
    refine ⟨?_, ?_, h2⟩
    · split <;> omega
    · split <;> omega
  · rintro ⟨h1, h2, h3⟩
    have h5 : 2 * lgR cs k ≤ lenR cs - n := by
      split at h2 <;> omega
    refine ⟨?_, h3, ?_, lg.mpr (.inl h5)⟩
    · split at h2 <;> omega
    · split at h1 <;> omega
theorem le_pos {cs : List Run} {k : Str} : 1 ≤ leR cs k := by
  unfold leR
  split <;> omega
theorem le_par {cs : List Run} {k : Str} : (lenR cs - leR cs k) % 2 = 0 := by
  unfold leR
  split <;> omega
theorem mo_par {cs : List Run} {k : Str} : (lenR cs - moR cs k) % 2 = 0 := by
  unfold moR
  split <;> omega
section
variable {P : Program} {w : World} {K : PySem.W.Frag} {mg : Str → Option Value} {base : Heap}
/-! range_in: slots 0:counts 1:kind 2:own 3:total 4:largest 5:least 6:most 7:entry 8:each 9:count -/
abbrev s_range_in : Stmt := topS 48
theorem sc_range_in : FnScope ["counts", "kind", "own", "total", "largest", "least", "most", "entry", "each", "count"] ["counts", "kind"] (defScope s_range_in) := ⟨rfl, rfl, rfl, by decide +kernel, rfl, by decide +kernel, by decide +kernel⟩
def sp_range_in : Sp := fun vs H Q _ => ∃ (a : Addr) (cs : List Run) (k : Str), vs = [.ref a, .str k] ∧ Runs H a cs ∧ cs.length ≤ 12 ∧ (rgO cs k = none → ∀ H', Same H H' → Q .non H') ∧ (∀ x y, rgO cs k = some (x, y) → ∀ H' t, Same H H' → H' t = some (.tup [.int x, .int y]) → Q (.ref t) H')
theorem ok_range_in (D : Df K mg "range_in" s_range_in) (T : Tx mg) (G_length_of : Has P w K mg base 1 "length_of" ["runs"] sp_length_of) : Has P w K mg base 2 "range_in" ["counts", "kind"] sp_range_in := by
  refine has_of D sc_range_in (fun _ _ _ _ _ _ us hl => match us, hl with | [_, _], _ => rfl) (fun vs H Q E h => ?_) (fun f cdv A outer s H vs Q E hr h => ?_)
  · obtain ⟨_, _, _, rfl, _⟩ := h
    rfl
  · obtain ⟨a, cs, k, rfl, hR, l12, qN, qS⟩ := h
    have hR0 := hR
    obtain ⟨xs, hx, hp⟩ := hR
    have lx : xs.length = cs.length := Paired.len hp
    refine ⟨_, (pss_cons (ps_set (i := 2) sc_range_in.nd rfl (by first | exact Or.inl rfl | exact Or.inr rfl) (pe_callH G_length_of (hr.mono (by omega)) (by rfl) (pa_cons (pe_lc (own := [("entry", 7)]) rfl sc_range_in.nd (pi_list (pv 0)) (blkOk_by (N := ["counts", "kind", "own", "total", "largest", "least", "most", "entry", "each", "count"]) (sc := defScope s_range_in) (by decide +kernel)) (fun _ _ _ _ _ => (pg_name (i := 7) sc_range_in.nd rfl (by first | exact Or.inl rfl | exact Or.inr rfl))) (fun _ _ _ _ _ => pts_one (pt_cmpR op_eq (pe_ix (ix_tupK (K := K) rfl) (pv 7) pe_int (fun _ _ => rfl)) (pv 1) (nomark _))) (fun _ _ _ _ _ => (pv 7))) pa_nil)))
    (pss_cons (ps_set (i := 3) sc_range_in.nd rfl (by first | exact Or.inl rfl | exact Or.inr rfl) (pe_callH G_length_of (hr.mono (by omega)) (by rfl) (pa_cons (pv 0) pa_nil)))
    (pss_cons (ps_set (i := 4) sc_range_in.nd rfl (by first | exact Or.inl rfl | exact Or.inr rfl) (pe_callB (cr_max rfl) (by rfl) T.n_max (by decide +kernel) (pa_cons (pe_op op_cat (pe_lst (pa_cons pe_int pa_nil)) (pe_lc (own := [("each", 8), ("count", 9)]) rfl sc_range_in.nd (pi_list (pv 0)) (blkOk_by (N := ["counts", "kind", "own", "total", "largest", "least", "most", "entry", "each", "count"]) (sc := defScope s_range_in) (by decide +kernel)) (fun _ _ _ _ _ => (pg_tupK (K := K) (n := 2) rfl rfl (pgs_cons (pg_name (i := 8) sc_range_in.nd rfl (by first | exact Or.inl rfl | exact Or.inr rfl)) (pgs_cons (pg_name (i := 9) sc_range_in.nd rfl (by first | exact Or.inl rfl | exact Or.inr rfl)) pgs_nil)))) (fun _ _ _ _ _ => pts_one (pt_cmpR op_ne (pv 8) (pv 1) (nomark _))) (fun _ _ _ _ _ => (pv 9)))) pa_nil)))
    (pss_cons (ps_set (i := 5) sc_range_in.nd rfl (by first | exact Or.inl rfl | exact Or.inr rfl) (pe_callB (call_max2 rfl) (by rfl) T.n_max (by decide +kernel) (pa_cons (pe_op op_sub (pe_op op_mul pe_int (pv 2)) (pv 3)) (pa_cons (pe_op op_sub pe_int (pe_op op_mod (pv 3) pe_int)) pa_nil))))
    (pss_cons (ps_set (i := 6) sc_range_in.nd rfl (by first | exact Or.inl rfl | exact Or.inr rfl) (pe_callB (call_min2 rfl) (by rfl) T.n_min (by decide +kernel) (pa_cons (pe_op op_sub (pv 2) (pe_op op_mod (pe_op op_sub (pv 3) (pv 2)) pe_int)) (pa_cons (pe_op op_sub (pv 3) (pe_op op_mul pe_int (pv 4))) pa_nil))))
    (pss_one (ps_ret (pe_ifExp (pt_cmpR op_le (pv 5) (pv 6) (nomark _)) (pe_tup (pa_cons (pv 5) (pa_cons (pv 6) pa_nil))) pe_non)))))))), ?_⟩
    refine ⟨_, rfl, a, rfl, ⟨xs, .of hx⟩, fun L nL => lc_list (K := K) (a := a) (xs := xs) (fun i H' => Same H H' ∧ Runs H' L ((cs.take i).filter fun r => decide (V.str r.1 = V.str k))) ⟨same_upd nL, [], upd_same, .nil⟩ (fun i H' _ p => .of (p.1 _ _ hx)) (fun i x H1 ex p => ?_) (fun H1 p => ?_)⟩
    · obtain ⟨s1, ys, hL, hy⟩ := p
      obtain ⟨r, er, hr1⟩ := Paired.at hp ex
      have hi : i < xs.length := (List.getElem?_eq_some_iff.mp ex).1
      have hr2 := RunV.same s1 hr1
      obtain ⟨t, rfl, ht⟩ := id hr2
      have ly := Paired.len hy
      have lf := List.length_filter_le (fun r : Run => decide (V.str r.1 = V.str k)) (cs.take i)
      rw [List.length_take] at lf
      rw [take_snoc er, List.filter_append]
      refine ⟨rfl, _, rfl, t, _, 0, _, rfl, rfl, .of ht, at0, _, rfl, rfl, _, rfl, ite2 (fun e => ?_) (fun e => ?_)⟩
      · refine ⟨_, rfl, ys, hL, small (by omega), same_grow nL s1, _, upd_same, ?_⟩
        rw [List.filter_cons, if_pos e]
        exact Paired.app (prs_grow hL hy) (.cons (RunV.grow hL hr2) .nil)
      · rw [List.filter_cons, if_neg e]
        exact ⟨s1, ys, hL, by rw [List.filter_nil, List.append_nil]; exact hy⟩
    obtain ⟨s1, hL⟩ := p
    rw [lx, List.take_length] at hL
    have lf := List.length_filter_le (fun r : Run => decide (V.str r.1 = V.str k)) cs
    refine ⟨L, _, rfl, hL, by omega, fun H2 s2 => ?_⟩
    have s2 := s1.trans s2
    refine ⟨_, rfl, a, cs, rfl, hR0.same s2, by omega, fun H3 s3 => ?_⟩
    have s3 := s2.trans s3
    have hx3 := s3 _ _ hx
    refine ⟨(by show 1 ≤ sizeLine; decide), fun o no => ?_⟩
    have so := same_upd (o := .lst [.int 0]) no
    have s4 := s3.trans so
    have hx4 := so _ _ hx3
    have ho : (upd H3 o (.lst [.int 0])) o = some (.lst [.int 0]) := upd_same
    generalize upd H3 o (.lst [.int 0]) = H4 at *
    refine ⟨_, rfl, a, rfl, ⟨xs, .of hx4⟩, fun M nM => lc_list (K := K) (a := a) (xs := xs) (fun i H' => Same H4 H' ∧ H' M = some (.lst ((((cs.take i).filter fun r => !decide (V.str r.1 = V.str k)).map (·.2)).map V.int))) ⟨same_upd nM, upd_same⟩ (fun i H' _ p => .of (p.1 _ _ hx4)) (fun i x H5 ex p => ?_) (fun H5 p => ?_)⟩
    · obtain ⟨s5, hM⟩ := p
      obtain ⟨r, er, hr1⟩ := Paired.at hp ex
      have hi : i < xs.length := (List.getElem?_eq_some_iff.mp ex).1
      obtain ⟨t, rfl, ht⟩ := RunV.same (s4.trans s5) hr1
      have lf := List.length_filter_le (fun r : Run => !decide (V.str r.1 = V.str k)) (cs.take i)
      rw [List.length_take] at lf
      rw [take_snoc er, List.filter_append]
      refine ⟨t, _, rfl, .of ht, rfl, _, _, rfl, _, _, rfl, rfl, rfl, _, rfl, _, rfl, rfl, _, rfl, ite2 (fun e => ?_) (fun e => ?_)⟩
      · refine ⟨_, rfl, _, hM, ?_, same_grow nM s5, ?_⟩
        · rw [List.length_map, List.length_map]
          exact small (by omega)
        · rw [upd_same, List.filter_cons, if_pos e, List.map_append, List.map_append]
          rfl
      · rw [List.filter_cons, if_neg e]
        exact ⟨s5, by rw [List.filter_nil, List.append_nil]; exact hM⟩
    obtain ⟨s5, hM⟩ := p
    rw [lx, List.take_length] at hM
    have lm := List.length_filter_le (fun r : Run => !decide (V.str r.1 = V.str k)) cs
    refine ⟨o, M, _, _, rfl, rfl, s5 _ _ ho, hM, ?_, fun z nz => ?_⟩
    · rw [List.length_map, List.length_map]
      show 1 + _ ≤ sizeLine
      exact Nat.le_of_lt (small (by omega))
    have s6 := (s4.trans s5).trans (same_upd (o := .lst ([.int 0] ++ ((cs.filter fun r => !decide (V.str r.1 = V.str k)).map (·.2)).map V.int)) nz)
    refine ⟨z, 0 :: ((cs.filter fun r => !decide (V.str r.1 = V.str k)).map (·.2)), rfl, SqL.of upd_same, Nat.succ_pos _, fun mx h1 h2 => ?_⟩
    have emx : mx = lgR cs k := by
      have u1 : lgR cs k ≤ mx := by
        rcases lg_mem cs k with e | ⟨r, hr, rk, e⟩
        · rw [e]
          exact h2 0 (List.mem_cons_self ..)
        · rw [← e]
          refine h2 r.2 (List.mem_cons_of_mem _ (List.mem_map.mpr ⟨r, List.mem_filter.mpr ⟨hr, ?_⟩, rfl⟩))
          rw [decide_eq_false (fun z => rk (V.str.inj z))]
          rfl
      have u2 : mx ≤ lgR cs k := by
        rcases List.mem_cons.mp h1 with e | e
        · rw [e]
          exact lg_nn cs k
        · obtain ⟨r, hr, e⟩ := List.mem_map.mp e
          obtain ⟨hr1, hr2⟩ := List.mem_filter.mp hr
          rw [← e]
          refine lg_ub cs k r hr1 fun z => ?_
          rw [decide_eq_true (by show V.str r.1 = V.str k; rw [z])] at hr2
          cases hr2
      omega
    subst emx
    refine ⟨_, rfl, _, _, rfl, rfl, .inl ⟨by decide, by decide⟩, _, rfl, _, _, rfl, rfl, _, rfl, _, _, rfl, rfl, (by show (0 : Int) < 2; decide), _, _, rfl, rfl, _, _, rfl, ?_⟩
    refine ⟨_, rfl, _, rfl, _, rfl, _, _, rfl, rfl, _, _, rfl, rfl, (by show (0 : Int) < 2; decide), _, _, rfl, rfl, _, rfl, _, rfl, _, _, rfl, rfl, .inl ⟨by decide, by decide⟩, _, _, rfl, rfl, _, _, rfl, ?_⟩
    have e5 : (if 2 - lenR cs % 2 > 2 * lenR (cs.filter fun r => decide (V.str r.1 = V.str k)) - lenR cs then 2 - lenR cs % 2 else 2 * lenR (cs.filter fun r => decide (V.str r.1 = V.str k)) - lenR cs) = leR cs k := rfl
    have e6 : (if lenR cs - 2 * lgR cs k < lenR (cs.filter fun r => decide (V.str r.1 = V.str k)) - (lenR cs - lenR (cs.filter fun r => decide (V.str r.1 = V.str k))) % 2 then lenR cs - 2 * lgR cs k else lenR (cs.filter fun r => decide (V.str r.1 = V.str k)) - (lenR cs - lenR (cs.filter fun r => decide (V.str r.1 = V.str k))) % 2) = moR cs k := rfl
    dsimp only
    rw [e5, e6]
    refine ⟨_, rfl, _, rfl, _, _, rfl, rfl, _, rfl, ite2 (fun e => ?_) (fun e => ?_)⟩
    · have e : leR cs k ≤ moR cs k := of_decide_eq_true e
      exact ⟨_, rfl, _, rfl, (by show 2 ≤ sizeLine; decide), fun t nt => qS _ _ (if_pos e) _ t (s6.trans (same_upd nt)) upd_same⟩
    · have e : ¬ leR cs k ≤ moR cs k := fun z => e (decide_eq_true z)
      exact qN (if_neg e) _ s6
end
end UP

set_option Elab.async false
set_option linter.all false
set_option maxRecDepth 100000
set_option maxHeartbeats 4000000
namespace UP
open PySem PySem.Spec PyProof.Rows L2
theorem call_isiK {X : Cx} {K : PySem.W.Frag} (h : X.K = K) : CallR X (.builtin "isinstance") (rIsi K) := h ▸ call_isi
/-! ### counts, among all values -/
def stepC (l : List Dat) (i : Nat) : Bool := decide ((keyAt l i).cps.toList < (keyAt l (i + 1)).cps.toList)
def Dat.counts (d : Dat) : Bool := match d.parts with
  | some l => decide ((l.length : Int) ≤ 12) && (l.all Dat.run && ((List.range (l.length - 1)).map (stepC l)).all id)
  | none => false
theorem cts_rp {H : Hp} {v : V} {d : Dat} (hv : Rp H v d) (h : d.counts = true) : RunsG H v d.runs ∧ CtOk d.runs := by
  cases hd : d.parts with
  | none =>
    unfold Dat.counts at h
    rw [hd] at h
    cases h
  | some l =>
    unfold Dat.counts at h
    rw [hd] at h
    have h := Bool.and_eq_true_iff.mp (show (decide ((l.length : Int) ≤ 12) && (l.all Dat.run && ((List.range (l.length - 1)).map (stepC l)).all id)) = true from h)
    have h1 := of_decide_eq_true h.1
    have h2 := Bool.and_eq_true_iff.mp h.2
    have er : d.runs = l.map Dat.rr := by unfold Dat.runs; rw [hd]
    rw [er]
    obtain ⟨a, xs, rfl, hx, hp⟩ := hv.seq hd
    have ra : ∀ x ∈ l, x.run = true := fun x hx => List.all_eq_true.mp h2.1 x hx
    have pair : ∀ {xs : List V} {l : List Dat}, Paired (Rp H) xs l → (∀ x ∈ l, x.run = true) → Paired (RunG H) xs (l.map Dat.rr) := by
      intro xs l hp
      induction hp with
      | nil => intro _; exact .nil
      | cons h _ ih =>
        intro k
        exact .cons (run_rp h (k _ (List.mem_cons_self ..))).1 (ih fun x hx => k x (List.mem_cons_of_mem _ hx))
    refine ⟨⟨a, xs, rfl, hx, pair hp ra⟩, by rw [List.length_map]; omega, fun r hr => ?_, fun i x y ex ey => ?_⟩
    · obtain ⟨e, he, rfl⟩ := List.mem_map.mp hr
      obtain ⟨z, n, _, hr, _, k, n1, n2⟩ := run_str (ra e he)
      rw [hr]
      exact ⟨k, n1, n2⟩
    · rw [List.getElem?_map] at ex ey
      cases e1 : l[i]? with
      | none => rw [e1] at ex; cases ex
      | some p =>
        cases e2 : l[i + 1]? with
        | none => rw [e2] at ey; cases ey
        | some p2 =>
          rw [e1] at ex
          rw [e2] at ey
          cases ex
          cases ey
          have hi : i < l.length - 1 := by
            have := (List.getElem?_eq_some_iff.mp e2).1
            omega
          have st := List.all_eq_true.mp h2.2 (stepC l i) (List.mem_map.mpr ⟨i, List.mem_range.mpr hi, rfl⟩)
          obtain ⟨z1, n1, _, r1, k1, _⟩ := run_str (ra p (List.mem_of_getElem? e1))
          obtain ⟨z2, n2, _, r2, k2, _⟩ := run_str (ra p2 (List.mem_of_getElem? e2))
          unfold stepC keyAt at st
          rw [e1, e2] at st
          have st : decide (p.key.cps.toList < p2.key.cps.toList) = true := st
          rw [k1, k2] at st
          rw [r1, r2]
          exact of_decide_eq_true st
section
variable {P : Program} {w : World} {K : PySem.W.Frag} {mg : Str → Option Value} {base : Heap}
/-! is_counts: slots 0:value 1:entry 2:following -/
abbrev s_is_counts : Stmt := topS 41
theorem sc_is_counts : FnScope ["value", "entry", "following"] ["value"] (defScope s_is_counts) := ⟨rfl, rfl, rfl, by decide +kernel, rfl, by decide +kernel, by decide +kernel⟩
def sp_is_counts : Sp := fun vs H Q _ => ∃ (v : V) (d : Dat), vs = [v] ∧ Rp H v d ∧ d.fits ∧ ∀ H', Same H H' → Q (.bl d.counts) H'
theorem ok_is_counts (D : Df K mg "is_counts" s_is_counts) (T : Tx mg) (G_is_listed : Has P w K mg base 1 "is_listed" ["value", "most"] sp_is_listed) (G_is_run : Has P w K mg base 3 "is_run" ["value"] sp_is_run) :
    Has P w K mg base 4 "is_counts" ["value"] sp_is_counts := by
  refine has_of D sc_is_counts (fun _ _ _ _ _ _ us hl => match us, hl with | [_], _ => rfl) (fun vs H Q E h => ?_) (fun f cdv A outer s H vs Q E hr h => ?_)
  · obtain ⟨v, r, rfl, _⟩ := h
    rfl
  · obtain ⟨v, d, rfl, hv, fit, q⟩ := h
    refine ⟨_, (pss_cons (ps_if (PW.pt (pw_or (pt_not (pt_val (pe_callH G_is_listed (hr.mono (by omega)) (by rfl) (pa_cons (pv 0) (pa_cons (pe_glI T.c_MAX_KINDS (by rfl)) pa_nil))))) (pw_or1 (pt_not (pt_val (pe_callB (cr_all rfl) (by rfl) T.n_all (by decide +kernel) (pa_cons (pe_lc (own := [("entry", 1)]) rfl sc_is_counts.nd (pi_seqV 0) (blkOk_by (N := ["value", "entry", "following"]) (sc := defScope s_is_counts) (by decide +kernel)) (fun _ _ _ _ _ => (pg_name (i := 1) sc_is_counts.nd rfl (by first | exact Or.inl rfl | exact Or.inr rfl))) (fun _ _ _ _ _ => pts_nil) (fun _ _ _ _ _ => (pe_callH G_is_run (hr.mono (by omega)) (by rfl) (pa_cons (pv 1) pa_nil)))) pa_nil))))))) (pss_one (ps_ret pe_bl)) pss_nil)
    (pss_one (ps_ret (pe_callB (cr_all rfl) (by rfl) T.n_all (by decide +kernel) (pa_cons (pe_lc (own := [("entry", 1), ("following", 2)]) rfl sc_is_counts.nd (pi_zip1 (i := 0) (RZ.pi_zipA (by rfl) T.n_zip (pa_cons (pv 0) (pa_cons (pe_slice (SlR.or sl_list sl_tupA) (pv 0) (po_some pe_int) po_none) pa_nil))) (fun _ _ _ q => ⟨1, rfl, q⟩) (fun _ _ _ q => q)) (blkOk_by (N := ["value", "entry", "following"]) (sc := defScope s_is_counts) (by decide +kernel)) (fun _ _ _ _ _ => (pg_tupK (K := K) (n := 2) rfl rfl (pgs_cons (pg_name (i := 1) sc_is_counts.nd rfl (by first | exact Or.inl rfl | exact Or.inr rfl)) (pgs_cons (pg_name (i := 2) sc_is_counts.nd rfl (by first | exact Or.inl rfl | exact Or.inr rfl)) pgs_nil)))) (fun _ _ _ _ _ => pts_nil) (fun _ _ _ _ _ => (pe_cmpR op_lt_str (pe_ix (ix_seqK (K := K) rfl) (pv 1) pe_int (fun _ _ => rfl)) (pe_ix (ix_seqK (K := K) rfl) (pv 2) pe_int (fun _ _ => rfl)) (nomark _)))) pa_nil))))), ?_⟩
    refine ⟨_, rfl, v, d, 12, rfl, hv, fun H1 s1 => ⟨_, rfl, ?_⟩⟩
    by_cases cl : d.listed 12 = true
    · refine iteN (by rw [cl]; rfl) ?_
      obtain ⟨l, hd⟩ : ∃ l, d.parts = some l := by
        cases hp : d.parts with
        | some l => exact ⟨l, rfl⟩
        | none =>
          unfold Dat.listed at cl
          rw [hp] at cl
          cases cl
      obtain ⟨a, xs, rfl, hx, hp⟩ := hv.seq hd
      have lx : xs.length = l.length := Paired.len hp
      obtain ⟨l5, fit⟩ := fit l hd
      have l4 : (l.length : Int) ≤ 12 := by
        unfold Dat.listed at cl
        rw [hd] at cl
        exact of_decide_eq_true cl
      have e0 : d.counts = (l.all Dat.run && ((List.range (l.length - 1)).map (stepC l)).all id) := by
        unfold Dat.counts
        rw [hd]
        show (decide _ && _) = _
        rw [decide_eq_true l4]
        rfl
      rw [e0] at q
      refine ⟨a, xs, rfl, hx.same s1, fun J wk L nL => lc_wk wk (fun i H' => Same H1 H' ∧ H' L = some (.lst (((l.take i).map Dat.run).map V.bl))) (fun _ _ p => p.1) ⟨same_upd nL, upd_same⟩ (fun i x H2 ex p => ?_) (fun H2 p => ?_)⟩
      · obtain ⟨sm, hL⟩ := p
        obtain ⟨r, er, hr1⟩ := Paired.at hp ex
        have hi : i < xs.length := (List.getElem?_eq_some_iff.mp ex).1
        refine ⟨rfl, yesT ⟨_, rfl, x, r, rfl, hr1.same (s1.trans sm), fit r (List.mem_of_getElem? er), fun H3 s3 => ⟨_, s3 _ _ hL, ?_, same_grow nL (sm.trans s3), ?_⟩⟩⟩
        · simp only [List.length_map, List.length_take]
          exact small (by omega)
        · rw [upd_same, take_snoc er, List.map_append, List.map_append]
          rfl
      · rw [lx, List.take_length] at p
        refine ⟨L, _, rfl, .of p.2, _, rfl, ?_⟩
        rw [all_map]
        have s2 : Same H H2 := s1.trans p.1
        by_cases ca : l.all Dat.run = true
        · rw [ca] at q
          refine iteN (by rw [ca]; rfl) ?_
          have rok : ∀ (i : Nat) (x : Dat), l[i]? = some x → x.run = true := fun i x h => List.all_eq_true.mp ca x (List.mem_of_getElem? h)
          refine ⟨a, xs, rfl, hx.same s2, fun J Hc sc wk M nM => ?_⟩
          have sA : Same H Hc := s2.trans sc
          refine lc_gen (n := xs.length - 1) (fun i H' => Same Hc H' ∧ H' M = some (.lst (((List.range i).map (stepC l)).map V.bl))) ⟨same_upd nM, upd_same⟩ (fun i H' hi p => wk.go i H' p.1 (by omega)) (fun H' p => wk.stop H' p.1) (fun i x H3 H4 hi p y => ?_) (fun H' p => ?_)
          · obtain ⟨T', x1, x2, rfl, nT, rfl, g1, g2⟩ := wk.yld i x H3 H4 p.1 y
            obtain ⟨sm, hM⟩ := p
            have g2 := g2 (by omega)
            have sB : Same H H3 := sA.trans sm
            obtain ⟨r1, e1, v1⟩ := Paired.at hp g1
            obtain ⟨r2, e2, v2⟩ := Paired.at hp g2
            obtain ⟨z1, y1, t1, k1⟩ := run_two (rok _ _ e1)
            obtain ⟨z2, y2, t2, k2⟩ := run_two (rok _ _ e2)
            obtain ⟨a1, u1, u1', rfl, w1, m1, _⟩ := (v1.same (sB.trans (same_upd (o := .tup [x1, x2]) nT))).two t1
            obtain ⟨a2, u2, u2', rfl, w2, m2, _⟩ := (v2.same (sB.trans (same_upd (o := .tup [_, x2]) nT))).two t2
            cases m1
            cases m2
            refine ⟨T', _, rfl, .of upd_same, rfl, _, _, rfl, _, _, rfl, rfl, rfl, yesT ?_⟩
            refine ⟨_, rfl, ix0 w1 ⟨_, rfl, ix0 w2 ⟨_, _, rfl, rfl, _, same_upd nT _ _ hM, ?_, same_grow nM (sm.trans (same_upd nT)), ?_⟩⟩⟩
            · simp only [List.length_map, List.length_range]
              exact small (by omega)
            · rw [upd_same, range_snoc, List.map_append]
              have eb : stepC l i = decide (z1.cps.toList < z2.cps.toList) := by
                unfold stepC keyAt
                rw [e1, e2]
                show decide (r1.key.cps.toList < r2.key.cps.toList) = _
                rw [k1, k2]
              rw [← eb]
              rfl
          · refine ⟨M, _, rfl, .of p.2, ?_⟩
            rw [lx]
            exact q _ (sA.trans p.1)
        · have ca : l.all Dat.run = false := by simpa using ca
          rw [ca] at q
          exact iteP (by rw [ca]; rfl) (q _ s2)
    · have cl : d.listed 12 = false := by simpa using cl
      have e0 : d.counts = false := by
        unfold Dat.listed at cl
        unfold Dat.counts
        cases hp : d.parts with
        | none => rfl
        | some l =>
          rw [hp] at cl
          have cl : decide ((l.length : Int) ≤ 12) = false := cl
          show (decide _ && _) = false
          rw [cl]
          rfl
      rw [e0] at q
      exact iteP (by rw [cl]; rfl) (q _ s1)
/-! checked_counts: slots 0:counts 1:kind 2:count -/
abbrev s_checked_counts : Stmt := topS 42
theorem sc_checked_counts : FnScope ["counts", "kind", "count"] ["counts"] (defScope s_checked_counts) := ⟨rfl, rfl, rfl, by decide +kernel, rfl, by decide +kernel, by decide +kernel⟩
def sp_checked_counts (C : Addr) : Sp := fun vs H Q E => ∃ (v : V) (d : Dat), vs = [v] ∧ Rp H v d ∧ d.fits ∧ (d.counts = true → ∀ H' p, Same H H' → H p = none → Runs H' p d.runs → Q (.ref p) H') ∧ (d.counts = false → ∀ H', Same H H' → E (.ref C) none H')
theorem ok_checked_counts {C : Addr} (D : Df K mg "checked_counts" s_checked_counts) (T : Tx mg) (X1 : Ex K mg "InvalidCounts" C) (G_is_counts : Has P w K mg base 4 "is_counts" ["value"] sp_is_counts) :
    HasX P w K mg base 5 "checked_counts" ["counts"] (sp_checked_counts C) := by
  refine hasX_of D sc_checked_counts (fun _ _ _ _ _ _ us hl => match us, hl with | [_], _ => rfl) (fun vs H Q E h => ?_) (fun f cdv A outer s H vs Q E hr h => ?_)
  · obtain ⟨v, r, rfl, _⟩ := h
    rfl
  · obtain ⟨v, d, rfl, hv, fit, q, qe⟩ := h
    refine ⟨_, (pss_cons (ps_if (pt_not (pt_val (pe_callH G_is_counts (hr.mono (by omega)) (by rfl) (pa_cons (pv 0) pa_nil)))) (pss_one (ps_raise rfl (takes_of rfl rfl rfl rfl) (pmk_own PySem.F.excBase_ValueError X1.x X1.g X1.k (raises_own X1.b X1.t) (by exact rfl)))) pss_nil)
    (pss_one (ps_ret (pe_lc (own := [("kind", 1), ("count", 2)]) rfl sc_checked_counts.nd (pi_seqV 0) (blkOk_by (N := ["counts", "kind", "count"]) (sc := defScope s_checked_counts) (by decide +kernel)) (fun _ _ _ _ _ => (pg_any (n := 2) rfl (pgs_cons (pg_name (i := 1) sc_checked_counts.nd rfl (by first | exact Or.inl rfl | exact Or.inr rfl)) (pgs_cons (pg_name (i := 2) sc_checked_counts.nd rfl (by first | exact Or.inl rfl | exact Or.inr rfl)) pgs_nil)))) (fun _ _ _ _ _ => pts_nil) (fun _ _ _ _ _ => (pe_tup (pa_cons (pv 1) (pa_cons (pv 2) pa_nil)))))))), ?_⟩
    refine ⟨_, rfl, v, d, rfl, hv, fit, fun H1 s1 => ⟨_, rfl, ?_⟩⟩
    by_cases cs : d.counts = true
    · refine iteN (by rw [cs]; rfl) ?_
      have q := q cs
      obtain ⟨hR, ok⟩ := cts_rp hv cs
      generalize d.runs = rs at *
      obtain ⟨a, xs, rfl, hx, hp⟩ := hR
      have lx : xs.length = rs.length := Paired.len hp
      refine ⟨a, xs, rfl, hx.same s1, fun J wk L nL => lc_wk wk (fun i H' => Same H1 H' ∧ ∃ ys, H' L = some (.lst ys) ∧ Paired (RunV H') ys (rs.take i)) (fun _ _ p => p.1) ⟨same_upd nL, [], upd_same, .nil⟩ (fun i x H2 ex p => ?_) (fun H2 p => ?_)⟩
      · obtain ⟨sm, ys, hL, hy⟩ := p
        obtain ⟨r, er, hr1⟩ := Paired.at hp ex
        have hi : i < xs.length := (List.getElem?_eq_some_iff.mp ex).1
        obtain ⟨t, rfl, ht⟩ := RunG.same (s1.trans sm) hr1
        refine ⟨t, _, rfl, ht, rfl, _, _, rfl, _, _, rfl, rfl, rfl, yesT ⟨_, rfl, _, rfl, (by show 2 ≤ sizeLine; decide), fun n nn => ⟨_, same_upd nn _ _ hL, ?_, same_grow nL (sm.trans (same_upd nn)), _, upd_same, ?_⟩⟩⟩
        · have := Paired.len hy
          rw [List.length_take] at this
          exact small (by have := ok.1; omega)
        · rw [take_snoc er]
          refine Paired.app (prs_grow (same_upd nn _ _ hL) (prs_same (same_upd nn) hy)) (.cons ?_ .nil)
          exact RunV.grow (same_upd nn _ _ hL) ⟨n, rfl, upd_same⟩
      · obtain ⟨sm, ys, hL, hy⟩ := p
        rw [lx, List.take_length] at hy
        exact q H2 L (s1.trans sm) (s1.free nL) ⟨ys, hL, hy⟩
    · have cs : d.counts = false := by simpa using cs
      exact iteP (by rw [cs]; rfl) (qe cs _ s1)
/-! check_kind: slots 0:kind -/
abbrev s_check_kind : Stmt := topS 32
theorem sc_check_kind : FnScope ["kind"] ["kind"] (defScope s_check_kind) := ⟨rfl, rfl, rfl, by decide +kernel, rfl, by decide +kernel, by decide +kernel⟩
def sp_check_kind (C : Addr) : Sp := fun vs H Q E => ∃ (v : V) (d : Dat), vs = [v] ∧ Rp H v d ∧ d.fit ∧ (d.kind = true → ∀ H', Same H H' → Q .non H') ∧ (d.kind = false → ∀ H', Same H H' → E (.ref C) none H')
theorem ok_check_kind {C : Addr} (D : Df K mg "check_kind" s_check_kind) (X1 : Ex K mg "InvalidKind" C) (G_is_kind : Has P w K mg base 1 "is_kind" ["value"] sp_is_kind) : HasX P w K mg base 2 "check_kind" ["kind"] (sp_check_kind C) := by
  refine hasX_of D sc_check_kind (fun _ _ _ _ _ _ us hl => match us, hl with | [_], _ => rfl) (fun vs H Q E h => ?_) (fun f cdv A outer s H vs Q E hr h => ?_)
  · obtain ⟨v, r, rfl, _⟩ := h
    rfl
  · obtain ⟨v, d, rfl, hv, fit, q, qe⟩ := h
    refine ⟨_, (pss_one (ps_if (pt_not (pt_val (pe_callH G_is_kind (hr.mono (by omega)) (by rfl) (pa_cons (pv 0) pa_nil)))) (pss_one (ps_raise rfl (takes_of rfl rfl rfl rfl) (pmk_own PySem.F.excBase_ValueError X1.x X1.g X1.k (raises_own X1.b X1.t) (by exact rfl)))) pss_nil)), ?_⟩
    refine ⟨_, rfl, v, d, rfl, hv, fit, fun H1 s1 => ⟨_, rfl, ?_⟩⟩
    by_cases c : d.kind = true
    · exact iteN (by rw [c]; rfl) (q c _ s1)
    · have c : d.kind = false := by simpa using c
      exact iteP (by rw [c]; rfl) (qe c _ s1)
/-! reason_against: slots 0:counts 1:state 2:reasons -/
abbrev s_reason_against : Stmt := topS 50
theorem sc_reason_against : FnScope ["counts", "state", "reasons"] ["counts", "state"] (defScope s_reason_against) := ⟨rfl, rfl, rfl, by decide +kernel, rfl, by decide +kernel, by decide +kernel⟩
def sp_reason_against (CC CT : Addr) : Sp := fun vs H Q E => ∃ (v u : V) (d e : Dat), vs = [v, u] ∧ Rp H v d ∧ d.fits ∧ Rp H u e ∧ e.fit2 ∧ (d.counts = true → e.state = true → ∀ H' x, Same H H' → Q x H') ∧ (d.counts = false → ∀ H', Same H H' → E (.ref CC) none H') ∧ (d.counts = true → e.state = false → ∀ H', Same H H' → E (.ref CT) none H')
theorem ok_reason_against {CC CT : Addr} (D : Df K mg "reason_against" s_reason_against) (T : Tx mg) (G_checked_counts : HasX P w K mg base 5 "checked_counts" ["counts"] (sp_checked_counts CC)) (G_checked_state : HasX P w K mg base 3 "checked_state" ["state"] (sp_checked_state CT)) (G_reasons_in : Has P w K mg base 3 "reasons_in" ["counts", "state"] sp_reasons_in) : HasX P w K mg base 6 "reason_against" ["counts", "state"] (sp_reason_against CC CT) := by
  refine hasX_of D sc_reason_against (fun _ _ _ _ _ _ us hl => match us, hl with | [_, _], _ => rfl) (fun vs H Q E h => ?_) (fun f cdv A outer s H vs Q E hr h => ?_)
  · obtain ⟨_, _, _, _, rfl, _⟩ := h
    rfl
  · obtain ⟨v, u, d, e, rfl, hv, fv, hu, fu, q, q1, q2⟩ := h
    refine ⟨_, (pss_cons (ps_set (i := 0) sc_reason_against.nd rfl (by first | exact Or.inl rfl | exact Or.inr rfl) (pe_callXH G_checked_counts (takes_of rfl rfl rfl rfl) (hr.mono (by omega)) (by rfl) (pa_cons (pv 0) pa_nil)))
    (pss_cons (ps_set (i := 2) sc_reason_against.nd rfl (by first | exact Or.inl rfl | exact Or.inr rfl) (pe_callH G_reasons_in (hr.mono (by omega)) (by rfl) (pa_cons (pv 0) (pa_cons (pe_callXH G_checked_state (takes_of rfl rfl rfl rfl) (hr.mono (by omega)) (by rfl) (pa_cons (pv 1) pa_nil)) pa_nil))))
    (pss_one (ps_ret (pe_ifExp (pt_truth (pv 2) (by intro _; rfl)) (pe_ix ix_list (pv 2) pe_int (fun _ _ => rfl)) pe_non))))), ?_⟩
    refine ⟨_, rfl, v, d, rfl, hv, fv, fun c1 H1 p s1 np hp => ?_, fun c1 H1 s1 => q1 c1 _ s1⟩
    refine ⟨_, rfl, _, rfl, u, e, rfl, hu.same s1, fu, fun c2 H2 v2 s2 h2 => ?_, fun c2 H2 s2 => q2 c1 c2 _ (s1.trans s2)⟩
    have ok := (cts_rp hv c1).2
    refine ⟨p, d.runs, v2, _, rfl, hp.same s2, ok.1, h2, fun H3 p3 n s3 n3 h3 hn => ?_⟩
    have sA := s1.trans (s2.trans s3)
    obtain ⟨xs, hx, lx, rx⟩ := h3
    refine ⟨_, rfl, !xs.isEmpty, .inl ⟨xs, .of hx, rfl⟩, ?_⟩
    cases xs with
    | nil => exact iteN rfl (q c1 c2 _ _ sA)
    | cons y ys => exact iteP rfl ⟨_, rfl, p3, _, 0, _, rfl, rfl, .of hx, atI_ofR (Int.le_refl _) rfl, q c1 c2 _ _ sA⟩
/-! can_remain: slots 0:counts 1:state -/
abbrev s_can_remain : Stmt := topS 49
theorem sc_can_remain : FnScope ["counts", "state"] ["counts", "state"] (defScope s_can_remain) := ⟨rfl, rfl, rfl, by decide +kernel, rfl, by decide +kernel, by decide +kernel⟩
theorem ok_can_remain {CC CT : Addr} (D : Df K mg "can_remain" s_can_remain) (G_reason_against : HasX P w K mg base 6 "reason_against" ["counts", "state"] (sp_reason_against CC CT)) : HasX P w K mg base 7 "can_remain" ["counts", "state"] (sp_reason_against CC CT) := by
  refine hasX_of D sc_can_remain (fun _ _ _ _ _ _ us hl => match us, hl with | [_, _], _ => rfl) (fun vs H Q E h => ?_) (fun f cdv A outer s H vs Q E hr h => ?_)
  · obtain ⟨_, _, _, _, rfl, _⟩ := h
    rfl
  · obtain ⟨v, u, d, e, rfl, hv, fv, hu, fu, q, q1, q2⟩ := h
    refine ⟨_, (pss_one (ps_ret (pe_cmpR op_isN (pe_callXH G_reason_against (takes_of rfl rfl rfl rfl) (hr.mono (by omega)) (by rfl) (pa_cons (pv 0) (pa_cons (pv 1) pa_nil))) pe_non (nomark _)))), ?_⟩
    exact ⟨_, rfl, _, rfl, v, u, d, e, rfl, hv, fv, hu, fu, fun c1 c2 H1 x s1 => ⟨rfl, q c1 c2 _ _ s1⟩, fun c1 H1 s1 => q1 c1 _ s1, fun c1 c2 H1 s1 => q2 c1 c2 _ s1⟩
/-! is_flat: slots 0:value 1:part -/
abbrev s_is_flat : Stmt := topS 46
theorem sc_is_flat : FnScope ["value", "part"] ["value"] (defScope s_is_flat) := ⟨rfl, rfl, rfl, by decide +kernel, rfl, by decide +kernel, by decide +kernel⟩
def sp_is_flat : Sp := fun vs H Q _ => vs = [V.non] ∧ ∀ H', Same H H' → Q (.bl false) H'
theorem ok_is_flat (D : Df K mg "is_flat" s_is_flat) (T : Tx mg) (G_is_listed : Has P w K mg base 1 "is_listed" ["value", "most"] sp_is_listed) (G_is_whole : Has P w K mg base 1 "is_whole" ["value"] sp_is_whole) : Has P w K mg base 2 "is_flat" ["value"] sp_is_flat := by
  refine has_of D sc_is_flat (fun _ _ _ _ _ _ us hl => match us, hl with | [_], _ => rfl) (fun vs H Q E h => ?_) (fun f cdv A outer s H vs Q E hr h => ?_)
  · obtain ⟨rfl, _⟩ := h
    rfl
  · obtain ⟨rfl, q⟩ := h
    refine ⟨_, (pss_one (ps_ret (pe_and (pe_callH G_is_listed (hr.mono (by omega)) (by rfl) (pa_cons (pv 0) (pa_cons pe_int pa_nil))) (pe_one (pe_callB (cr_all rfl) (by rfl) T.n_all (by decide +kernel) (pa_cons (pe_lc (own := [("part", 1)]) rfl sc_is_flat.nd (pi_seqV 0) (blkOk_by (N := ["value", "part"]) (sc := defScope s_is_flat) (by decide +kernel)) (fun _ _ _ _ _ => (pg_name (i := 1) sc_is_flat.nd rfl (by first | exact Or.inl rfl | exact Or.inr rfl))) (fun _ _ _ _ _ => pts_nil) (fun _ _ _ _ _ => (pe_or (pe_callB (call_isiK (K := K) rfl) (by rfl) T.n_isinstance (by decide +kernel) (pa_cons (pv 1) (pa_cons (pe_bltn (v := .ty "str") (by rfl) T.n_str (by decide +kernel) rfl) pa_nil))) (pe_one (pe_callH G_is_whole (hr.mono (by omega)) (by rfl) (pa_cons (pv 1) pa_nil)))))) pa_nil)))))), ?_⟩
    exact ⟨_, rfl, .non, .non, 4, rfl, .non, fun H1 s1 => ⟨false, rfl, iteF (q _ s1)⟩⟩
/-! shows_against: slots 0:counts 1:state 2:value 3:reasons -/
abbrev s_shows_against : Stmt := topS 51
theorem sc_shows_against : FnScope ["counts", "state", "value", "reasons"] ["counts", "state", "value"] (defScope s_shows_against) := ⟨rfl, rfl, rfl, by decide +kernel, rfl, by decide +kernel, by decide +kernel⟩
def sp_shows_against (CC CT : Addr) : Sp := fun vs H Q E => ∃ (v u : V) (d e : Dat), vs = [v, u, .non] ∧ Rp H v d ∧ d.fits ∧ Rp H u e ∧ e.fit2 ∧ (d.counts = true → e.state = true → ∀ H' x, Same H H' → Q x H') ∧ (d.counts = false → ∀ H', Same H H' → E (.ref CC) none H') ∧ (d.counts = true → e.state = false → ∀ H', Same H H' → E (.ref CT) none H')
theorem ok_shows_against {CC CT : Addr} (D : Df K mg "shows_against" s_shows_against) (T : Tx mg) (G_checked_counts : HasX P w K mg base 5 "checked_counts" ["counts"] (sp_checked_counts CC)) (G_checked_state : HasX P w K mg base 3 "checked_state" ["state"] (sp_checked_state CT)) (G_reasons_in : Has P w K mg base 3 "reasons_in" ["counts", "state"] sp_reasons_in) (G_is_flat : Has P w K mg base 2 "is_flat" ["value"] sp_is_flat) : HasX P w K mg base 6 "shows_against" ["counts", "state", "value"] (sp_shows_against CC CT) := by
  refine hasX_of D sc_shows_against (fun _ _ _ _ _ _ us hl => match us, hl with | [_, _, _], _ => rfl) (fun vs H Q E h => ?_) (fun f cdv A outer s H vs Q E hr h => ?_)
  · obtain ⟨_, _, _, _, rfl, _⟩ := h
    rfl
  · obtain ⟨v, u, d, e, rfl, hv, fv, hu, fu, q, q1, q2⟩ := h
    refine ⟨_, (pss_cons (ps_set (i := 0) sc_shows_against.nd rfl (by first | exact Or.inl rfl | exact Or.inr rfl) (pe_callXH G_checked_counts (takes_of rfl rfl rfl rfl) (hr.mono (by omega)) (by rfl) (pa_cons (pv 0) pa_nil)))
    (pss_cons (ps_set (i := 3) sc_shows_against.nd rfl (by first | exact Or.inl rfl | exact Or.inr rfl) (pe_callH G_reasons_in (hr.mono (by omega)) (by rfl) (pa_cons (pv 0) (pa_cons (pe_callXH G_checked_state (takes_of rfl rfl rfl rfl) (hr.mono (by omega)) (by rfl) (pa_cons (pv 1) pa_nil)) pa_nil))))
    (pss_one (ps_ret (pe_and (pe_callH G_is_flat (hr.mono (by omega)) (by rfl) (pa_cons (pv 2) pa_nil)) (pe_one (pe_cmpR op_in_seq (pe_callTy call_tuple_of (by rfl) T.n_tuple (by decide +kernel) (pa_cons (pv 2) pa_nil)) (pv 3) (by with_unfolding_all rfl)))))))), ?_⟩
    refine ⟨_, rfl, v, d, rfl, hv, fv, fun c1 H1 p s1 np hp => ?_, fun c1 H1 s1 => q1 c1 _ s1⟩
    refine ⟨_, rfl, _, rfl, u, e, rfl, hu.same s1, fu, fun c2 H2 v2 s2 h2 => ?_, fun c2 H2 s2 => q2 c1 c2 _ (s1.trans s2)⟩
    have ok := (cts_rp hv c1).2
    refine ⟨p, d.runs, v2, _, rfl, hp.same s2, ok.1, h2, fun H3 p3 n s3 n3 h3 hn => ?_⟩
    exact ⟨_, rfl, rfl, fun H4 s4 => ⟨false, rfl, iteF (q c1 c2 _ _ (s1.trans (s2.trans (s3.trans s4))))⟩⟩
/-! remaining_range: slots 0:counts 1:kind -/
abbrev s_remaining_range : Stmt := topS 53
theorem sc_remaining_range : FnScope ["counts", "kind"] ["counts", "kind"] (defScope s_remaining_range) := ⟨rfl, rfl, rfl, by decide +kernel, rfl, by decide +kernel, by decide +kernel⟩
def sp_remaining_range (CC CK : Addr) : Sp := fun vs H Q E => ∃ (v u : V) (d e : Dat), vs = [v, u] ∧ Rp H v d ∧ d.fits ∧ Rp H u e ∧ e.fit ∧ (d.counts = true → e.kind = true → ∀ H' x, Same H H' → Q x H') ∧ (d.counts = false → ∀ H', Same H H' → E (.ref CC) none H') ∧ (d.counts = true → e.kind = false → ∀ H', Same H H' → E (.ref CK) none H')
theorem ok_remaining_range {CC CK : Addr} (D : Df K mg "remaining_range" s_remaining_range) (G_checked_counts : HasX P w K mg base 5 "checked_counts" ["counts"] (sp_checked_counts CC)) (G_check_kind : HasX P w K mg base 2 "check_kind" ["kind"] (sp_check_kind CK)) (G_range_in : Has P w K mg base 2 "range_in" ["counts", "kind"] sp_range_in) : HasX P w K mg base 6 "remaining_range" ["counts", "kind"] (sp_remaining_range CC CK) := by
  refine hasX_of D sc_remaining_range (fun _ _ _ _ _ _ us hl => match us, hl with | [_, _], _ => rfl) (fun vs H Q E h => ?_) (fun f cdv A outer s H vs Q E hr h => ?_)
  · obtain ⟨_, _, _, _, rfl, _⟩ := h
    rfl
  · obtain ⟨v, u, d, e, rfl, hv, fv, hu, fu, q, q1, q2⟩ := h
    refine ⟨_, (pss_cons (ps_set (i := 0) sc_remaining_range.nd rfl (by first | exact Or.inl rfl | exact Or.inr rfl) (pe_callXH G_checked_counts (takes_of rfl rfl rfl rfl) (hr.mono (by omega)) (by rfl) (pa_cons (pv 0) pa_nil)))
    (pss_cons (ps_expr (pe_callXH G_check_kind (takes_of rfl rfl rfl rfl) (hr.mono (by omega)) (by rfl) (pa_cons (pv 1) pa_nil)))
    (pss_one (ps_ret (pe_callH G_range_in (hr.mono (by omega)) (by rfl) (pa_cons (pv 0) (pa_cons (pv 1) pa_nil))))))), ?_⟩
    refine ⟨_, rfl, v, d, rfl, hv, fv, fun c1 H1 p s1 np hp => ?_, fun c1 H1 s1 => q1 c1 _ s1⟩
    refine ⟨_, rfl, u, e, rfl, hu.same s1, fu, fun c2 H2 s2 => ?_, fun c2 H2 s2 => q2 c1 c2 _ (s1.trans s2)⟩
    have q9 := q c1 c2
    have ok := (cts_rp hv c1).2
    obtain ⟨z, rfl⟩ : ∃ z, e = .str z := by
      cases e with
      | str z => exact ⟨z, rfl⟩
      | _ => cases c2
    cases hu
    exact ⟨_, rfl, _, rfl, p, d.runs, z, rfl, hp.same s2, ok.1, fun _ H3 s3 => q9 _ _ (s1.trans (s2.trans s3)), fun x y _ H3 t s3 _ => q9 _ _ (s1.trans (s2.trans s3))⟩
/-! remaining_count: slots 0:counts 1:number 2:kind 3:count 4:ends -/
abbrev s_remaining_count : Stmt := topS 54
theorem sc_remaining_count : FnScope ["counts", "number", "kind", "count", "ends"] ["counts"] (defScope s_remaining_count) := ⟨rfl, rfl, rfl, by decide +kernel, rfl, by decide +kernel, by decide +kernel⟩
def sp_remaining_count (CC : Addr) : Sp := fun vs H Q E => ∃ (v : V) (d : Dat), vs = [v] ∧ Rp H v d ∧ d.fits ∧ (d.counts = true → ∀ H' x, Same H H' → Q x H') ∧ (d.counts = false → ∀ H', Same H H' → E (.ref CC) none H')
theorem ok_remaining_count {CC : Addr} (D : Df K mg "remaining_count" s_remaining_count) (T : Tx mg) (G_checked_counts : HasX P w K mg base 5 "checked_counts" ["counts"] (sp_checked_counts CC)) (G_reasons_in : Has P w K mg base 3 "reasons_in" ["counts", "state"] sp_reasons_in) (G_range_in : Has P w K mg base 2 "range_in" ["counts", "kind"] sp_range_in) : HasX P w K mg base 6 "remaining_count" ["counts"] (sp_remaining_count CC) := by
  refine hasX_of D sc_remaining_count (fun _ _ _ _ _ _ us hl => match us, hl with | [_], _ => rfl) (fun vs H Q E h => ?_) (fun f cdv A outer s₀ H vs Q E hr h => ?_)
  · obtain ⟨_, _, rfl, _⟩ := h
    rfl
  · obtain ⟨v, d, rfl, hv, fv, q, q1⟩ := h
    refine ⟨_, (pss_cons (ps_set (i := 0) sc_remaining_count.nd rfl (by first | exact Or.inl rfl | exact Or.inr rfl) (pe_callXH G_checked_counts (takes_of rfl rfl rfl rfl) (hr.mono (by omega)) (by rfl) (pa_cons (pv 0) pa_nil)))
    (C8.pss_cut (ps_set (i := 1) sc_remaining_count.nd rfl (by first | exact Or.inl rfl | exact Or.inr rfl) (pe_ifExp (pt_truth (pe_callH G_reasons_in (hr.mono (by omega)) (by rfl) (pa_cons (pv 0) (pa_cons pe_non pa_nil))) (by intro _; rfl)) pe_int pe_int))
    (pss_cons (ps_for (passes_of rfl) rfl (pi_list (pv 0)) (pg_tup rfl (pgs_cons (pg_name (i := 2) sc_remaining_count.nd rfl (by first | exact Or.inl rfl | exact Or.inr rfl)) (pgs_cons (pg_name (i := 3) sc_remaining_count.nd rfl (by first | exact Or.inl rfl | exact Or.inr rfl)) pgs_nil)))
      (pss_cons (ps_set (i := 4) sc_remaining_count.nd rfl (by first | exact Or.inl rfl | exact Or.inr rfl) (pe_callH G_range_in (hr.mono (by omega)) (by rfl) (pa_cons (pv 0) (pa_cons (pv 2) pa_nil))))
    (pss_one (ps_if (pt_cmpR op_notN (pv 4) pe_non (nomark _)) (pss_one (ps_aug (i := 1) sc_remaining_count.nd rfl (by first | exact Or.inl rfl | exact Or.inr rfl) (pe_op op_add (pe_op op_fdiv (pe_op op_sub (pe_ix ix_tup (pv 4) pe_int (fun _ _ => rfl)) (pe_ix ix_tup (pv 4) pe_int (fun _ _ => rfl))) pe_int) pe_int) ip_add)) pss_nil))))
    (pss_one (ps_ret (pv 1)))))), ?_⟩
    refine ⟨_, rfl, v, d, rfl, hv, fv, fun c1 H1 p s1 np hp => ?_, fun c1 H1 s1 => q1 c1 _ s1⟩
    have ok := (cts_rp hv c1).2
    have q9 := q c1
    generalize d.runs = cs at *
    refine ⟨fun σ' H' => ∃ n : Int, σ' = [some (.ref p), some (.int n), none, none, none] ∧ Same H1 H', ?_, fun σ' H2 hM => ?_⟩
    · refine ⟨_, rfl, p, cs, .non, none, rfl, hp, ok.1, rfl, fun H3 p3 n s3 n3 h3 hn => ?_⟩
      obtain ⟨xs, hx, lx, rx⟩ := h3
      refine ⟨!xs.isEmpty, .inl ⟨xs, .of hx, rfl⟩, ?_⟩
      cases xs with
      | nil => exact iteN rfl ⟨1, rfl, s3⟩
      | cons y ys => exact iteP rfl ⟨0, rfl, s3⟩
    obtain ⟨n, rfl, s2⟩ := hM
    have hp2 := hp.same s2
    obtain ⟨xs, hx, hpr⟩ := id hp2
    refine ⟨_, rfl, p, rfl, ⟨xs, .of hx⟩, for_list (K := K) (a := p) (xs := xs) (fun i σ H' => ∃ y2 y3 y4, ∃ n : Int, σ = [some (.ref p), some (.int n), y2, y3, y4] ∧ Same H2 H') ⟨none, none, none, n, rfl, Same.refl _⟩ (fun i σ H' _ hP => ?_) (fun i x σ H4 ex hP => ?_) (fun σ H4 hP => ?_)⟩
    · obtain ⟨_, _, _, _, _, sm⟩ := hP
      exact .of (sm _ _ hx)
    · obtain ⟨y2, y3, y4, n, rfl, sm⟩ := hP
      obtain ⟨r, er, hr1⟩ := Paired.at hpr ex
      obtain ⟨t, rfl, ht⟩ := RunV.same sm hr1
      refine ⟨t, _, rfl, .of ht, rfl, _, _, rfl, _, _, rfl, rfl, ?_⟩
      refine ⟨_, rfl, _, rfl, p, cs, r.1, rfl, hp2.same sm, ok.1, fun _ H5 s5 => ?_, fun x y _ H5 u s5 hu => ?_⟩
      · exact ⟨_, rfl, rfl, _, rfl, iteN rfl ⟨_, _, _, n, rfl, sm.trans s5⟩⟩
      · refine ⟨_, rfl, rfl, _, rfl, iteP rfl ⟨_, rfl, _, rfl, u, _, 1, _, rfl, rfl, .of hu, at1, _, rfl, u, _, 0, _, rfl, rfl, .of hu, at0, _, _, rfl, rfl, _, _, rfl, rfl, ⟨by decide, by decide⟩, _, _, rfl, rfl, _, _, rfl, rfl, ?_⟩⟩
        exact ⟨_, _, _, _, rfl, sm.trans s5⟩
    · obtain ⟨y2, y3, y4, n, rfl, sm⟩ := hP
      exact ⟨_, rfl, q9 _ _ (s1.trans (s2.trans sm))⟩
end
end UP

set_option Elab.async false
set_option linter.all false
set_option maxRecDepth 100000
set_option maxHeartbeats 4000000
namespace UP
open PySem PySem.Spec PyProof.Rows L2
theorem paired_snoc {α β : Type} {F : α → β → Prop} : ∀ {xs : List α} (l : List β) (y : β), Paired F xs (l ++ [y]) → ∃ xs0 x, xs = xs0 ++ [x] ∧ Paired F xs0 l ∧ F x y
  | _, [], y, h => by
    cases h with
    | cons h1 h2 =>
      cases h2
      exact ⟨[], _, rfl, .nil, h1⟩
  | _, z :: l, y, h => by
    cases h with
    | cons h1 h2 =>
      obtain ⟨xs0, x, e, h3, h4⟩ := paired_snoc l y h2
      exact ⟨_ :: xs0, x, by rw [e]; rfl, .cons h1 h3, h4⟩
theorem set_last {α : Type} : ∀ (l : List α) (x y : α), (l ++ [x]).set l.length y = l ++ [y]
  | [], _, _ => rfl
  | z :: l, x, y => congrArg (z :: ·) (set_last l x y)
theorem ixN_last {n : Nat} : ixN (n + 1) (-1) = some n := by
  unfold ixN
  simp
  omega
/-! ### one more run -/
def addR (rs : List Run) (r : Run) : List Run := match rs.getLast? with
  | none => [r]
  | some l => if l.1 = r.1 then rs.dropLast ++ [(r.1, l.2 + r.2)] else rs ++ [r]
def joinR (rs cs : List Run) : List Run := cs.foldl addR rs
theorem joinR_snoc (rs cs : List Run) (r : Run) : joinR rs (cs ++ [r]) = addR (joinR rs cs) r := by
  unfold joinR
  rw [List.foldl_append]
  rfl
theorem addR_len (rs : List Run) (r : Run) : (addR rs r).length ≤ rs.length + 1 := by
  unfold addR
  split
  · exact Nat.le_add_left _ _
  · split
    · rw [List.length_append, List.length_dropLast]
      simp only [List.length_cons, List.length_nil]
      omega
    · rw [List.length_append]
      exact Nat.le_refl _
theorem joinR_len : ∀ (cs rs : List Run), (joinR rs cs).length ≤ rs.length + cs.length
  | [], _ => Nat.le_refl _
  | c :: t, rs => by
    have h1 := joinR_len t (addR rs c)
    have h2 := addR_len rs c
    show (joinR (addR rs c) t).length ≤ _
    rw [List.length_cons]
    omega
theorem RunV.butL {H H' : Hp} {p : Addr} {xs : List V} {v : V} {r : Run} (hp : H p = some (.lst xs)) (b : But p H H') (h : RunV H v r) : RunV H' v r := by
  obtain ⟨t, e, h⟩ := h
  exact ⟨t, e, b _ _ (ne_of h hp (by intro q; cases q)) h⟩
section
variable {P : Program} {w : World} {K : PySem.W.Frag} {mg : Str → Option Value} {base : Heap}
/-! add_run: slots 0:runs 1:kind 2:count -/
abbrev s_add_run : Stmt := topS 36
theorem sc_add_run : FnScope ["runs", "kind", "count"] ["runs", "kind", "count"] (defScope s_add_run) := ⟨rfl, rfl, rfl, by decide +kernel, rfl, by decide +kernel, by decide +kernel⟩
def sp_add_run : Sp := fun vs H Q _ => ∃ (a : Addr) (rs : List Run) (r : Run), vs = [.ref a, .str r.1, .int r.2] ∧ Runs H a rs ∧ rs.length ≤ 100000 ∧ ∀ H', But a H H' → Runs H' a (addR rs r) → Q .non H'
theorem ok_add_run (D : Df K mg "add_run" s_add_run) : Has P w K mg base 1 "add_run" ["runs", "kind", "count"] sp_add_run := by
  refine has_of D sc_add_run (fun _ _ _ _ _ _ us hl => match us, hl with | [_, _, _], _ => rfl) (fun vs H Q E h => ?_) (fun f cdv A outer s₀ H vs Q E hr h => ?_)
  · obtain ⟨a, R, n, rfl, _⟩ := h
    rfl
  · obtain ⟨a, rs, r, rfl, ⟨xs, hx, hp⟩, l4, q⟩ := h
    have lx : xs.length = rs.length := Paired.len hp
    have app : ∀ (u : Addr), H u = none → (addR rs r = rs ++ [r]) → Q .non (upd (upd H u (.tup [.str r.1, .int r.2])) a (.lst (xs ++ [.ref u]))) := by
      intro u nn e
      refine q _ (fun b o nb eb => ?_) ⟨_, upd_same, ?_⟩
      · rw [upd_ne nb]
        exact same_upd nn _ _ eb
      · rw [e]
        exact Paired.app (prs_grow (same_upd nn _ _ hx) (prs_same (same_upd nn) hp)) (.cons (RunV.grow (same_upd nn _ _ hx) ⟨u, rfl, upd_same⟩) .nil)
    refine ⟨_, (pss_one (ps_if (PW.pt (pw_and (pt_truth (pv 0) (by intro _; rfl)) (pw_and1 (pt_cmpR op_eq (pe_ix ix_tup (pe_ix ix_list (pv 0) (pe_un un_neg pe_int) (fun _ _ => rfl)) pe_int (fun _ _ => rfl)) (pv 1) (nomark _))))) (pss_one (ps_asg (pe_tup (pa_cons (pv 1) (pa_cons (pe_op op_add (pe_ix ix_tup (pe_ix ix_list (pv 0) (pe_un un_neg pe_int) (fun _ _ => rfl)) pe_int (fun _ _ => rfl)) (pv 2)) pa_nil))) (pg_sub (pv 0) (pe_un un_neg pe_int) set_list))) (pss_one (ps_expr (pe_bm PySem.F.plainAttrs_list PySem.F.slot_list_append PySem.F.type_list_append mt_append (pv 0) (pa_cons (pe_tup (pa_cons (pv 1) (pa_cons (pv 2) pa_nil))) pa_nil)))))), ?_⟩
    rcases List.eq_nil_or_concat rs with e0 | ⟨R0, l, e0⟩
    · subst e0
      cases hp
      exact ⟨_, rfl, false, .inl ⟨[], .of hx, rfl⟩, iteF (iteF ⟨_, rfl, .inl ⟨rfl, _, SqL.of hx⟩, _, rfl, _, rfl, (by show 2 ≤ sizeLine; decide), fun u nn => ⟨a, _, _, rfl, rfl, same_upd nn _ _ hx, (by show 0 < sizeLine; decide), app u nn rfl⟩⟩)⟩
    · rw [List.concat_eq_append] at e0
      subst e0
      obtain ⟨ys0, y, rfl, hy0, ⟨tl, rfl, htl⟩⟩ := paired_snoc R0 l hp
      have exl : atI (ys0 ++ [V.ref tl]) (-1) = some (.ref tl) := atI_last _ _
      refine ⟨_, rfl, true, .inl ⟨_, .of hx, by cases ys0 <;> rfl⟩, iteT ⟨_, rfl, 1, rfl, a, _, -1, _, rfl, rfl, .of hx, exl, tl, _, 0, _, rfl, rfl, .of htl, at0, _, rfl, rfl, _, rfl, ite2 (fun e1 => ?_) (fun e1 => ?_)⟩⟩
      · have e1 : l.1 = r.1 := V.str.inj (of_decide_eq_true e1)
        have er : addR (R0 ++ [l]) r = R0 ++ [(r.1, l.2 + r.2)] := by
          unfold addR
          rw [List.getLast?_concat, List.dropLast_concat]
          exact if_pos e1
        refine ⟨_, rfl, _, rfl, 1, rfl, a, _, -1, _, rfl, rfl, .of hx, exl, tl, _, 1, _, rfl, rfl, .of htl, at1, _, rfl, _, _, rfl, rfl, (by show 2 ≤ sizeLine; decide), fun u nn => ⟨_, rfl, 1, rfl, a, _, -1, ys0.length, rfl, rfl, same_upd nn _ _ hx, ?_, ?_⟩⟩
        · rw [List.length_append]
          exact ixN_last
        · rw [set_last]
          refine q _ (fun b o nb eb => ?_) ⟨_, upd_same, ?_⟩
          · rw [upd_ne nb]
            exact same_upd nn _ _ eb
          · rw [er]
            exact Paired.app (prs_grow (same_upd nn _ _ hx) (prs_same (same_upd nn) hy0)) (.cons (RunV.grow (same_upd nn _ _ hx) ⟨u, rfl, upd_same⟩) .nil)
      · have e1 : ¬ l.1 = r.1 := fun z => e1 (decide_eq_true (by rw [z]))
        have er : addR (R0 ++ [l]) r = (R0 ++ [l]) ++ [r] := by
          unfold addR
          rw [List.getLast?_concat]
          exact if_neg e1
        exact ⟨_, rfl, .inl ⟨rfl, _, SqL.of hx⟩, _, rfl, _, rfl, (by show 2 ≤ sizeLine; decide), fun u nn => ⟨a, _, _, rfl, rfl, same_upd nn _ _ hx, small (by omega), app u nn er⟩⟩
end
end UP

set_option Elab.async false
set_option linter.all false
set_option maxRecDepth 100000
set_option maxHeartbeats 4000000
namespace UP
open PySem PySem.Spec PyProof.Rows L2
theorem Runs.butB {H H' : Hp} {D a : Addr} {acc : List V} {R : List Run} (hD : H D = some (.lst acc)) (n : a ≠ D) (s : But D H H') (h : Runs H a R) : Runs H' a R := by
  obtain ⟨xs, hx, hp⟩ := h
  refine ⟨xs, s _ _ n hx, Paired.imp (fun v p z => ?_) hp⟩
  obtain ⟨t, e, ht⟩ := z
  exact ⟨t, e, s _ _ (ne_of ht hD (by intro q; cases q)) ht⟩
theorem StV.butB {H H' : Hp} {D : Addr} {acc : List V} {v : V} {st : Option Run} (hD : H D = some (.lst acc)) (s : But D H H') (h : StV H v st) : StV H' v st := by
  cases st with
  | none => exact h
  | some r =>
    obtain ⟨t, e, ht⟩ := h
    exact ⟨t, e, s _ _ (ne_of ht hD (by intro q; cases q)) ht⟩
/-- what was there before stays, whatever is done to a list that is new -/
theorem Same.butB {H H1 H' : Hp} {D : Addr} (n : H D = none) (s : Same H H1) (b : But D H1 H') : Same H H' := fun a o e => b _ _ (ne_of_none e n) (s _ _ e)
theorem gen_set {i : Nat} {v : V} {σ : L2.St} {H : Hp} {x : TS} {D : Ends} {n : Int} (e : v = .int n) (h : x D (σ.set i (some (.int n))) H) : gName i v σ H (Ends.nx { D with nx := x D }) := by
  subst e
  exact h
theorem But.reflP {R : Addr} {H : Hp} : But R H H := fun _ _ _ e => e
def clmp (s e x : Int) : Int := if (if e < x then e else x) < s then s else if e < x then e else x
theorem piece_len {b s e : Int} {r : Run} (h : 0 ≤ r.2) (se : s ≤ e) : lenR (pieceR b s e r) = clmp s e (b + r.2) - clmp s e b := by
  unfold pieceR clmp
  by_cases c : 0 < sizeR b s e r.2
  · rw [if_pos c, lenR_cons, lenR_nil]
    show sizeR b s e r.2 + 0 = _
    unfold sizeR at c ⊢
    split at c <;> split at c <;> (try split) <;> (try split) <;> (try split) <;> (try split) <;> (try split) <;> (try split) <;> omega
  · rw [if_neg c, lenR_nil]
    unfold sizeR at c
    split at c <;> split at c <;> (try split) <;> (try split) <;> (try split) <;> (try split) <;> (try split) <;> (try split) <;> omega
theorem len_cut {s e : Int} (se : s ≤ e) : ∀ (l : List Run) (b : Int), (∀ r ∈ l, 0 ≤ r.2) → lenR (cutR s e b l) = clmp s e (b + lenR l) - clmp s e b
  | [], b, _ => by
    show lenR [] = _
    rw [lenR_nil, Int.add_zero, Int.sub_self]
  | r :: t, b, k => by
    show lenR (pieceR b s e r ++ cutR s e (b + r.2) t) = _
    rw [lenR_app, piece_len (k r (List.mem_cons_self ..)) se, len_cut se t (b + r.2) fun x hx => k x (List.mem_cons_of_mem _ hx), lenR_cons]
    rw [show b + r.2 + lenR t = b + (r.2 + lenR t) by omega]
    omega
theorem cut_short {s h : Int} {r : Run} {t : List Run} (s0 : 0 ≤ s) (e : s = r.2) (h0 : 0 ≤ h) : (cutR s (s + h) 0 (r :: t)).length ≤ t.length := by
  show (pieceR 0 s (s + h) r ++ cutR s (s + h) (0 + r.2) t).length ≤ _
  have : pieceR 0 s (s + h) r = [] := by
    unfold pieceR
    refine if_neg ?_
    unfold sizeR
    split <;> split <;> omega
  rw [this, List.nil_append]
  exact cutR_len _ _ _ _
theorem pieceR_pos {b s e : Int} {r x : Run} (h : x ∈ pieceR b s e r) : 1 ≤ x.2 := by
  unfold pieceR at h
  split at h
  · rename_i z
    simp only [List.mem_singleton] at h
    subst h
    show 1 ≤ sizeR b s e r.2
    omega
  · cases h
theorem cutR_pos {s e : Int} : ∀ {l : List Run} {b : Int}, ∀ x ∈ cutR s e b l, 1 ≤ x.2
  | [], _, x, h => by cases h
  | r :: t, b, x, h => by
    rcases List.mem_append.mp (show x ∈ pieceR b s e r ++ cutR s e (b + r.2) t from h) with h | h
    · exact pieceR_pos h
    · exact cutR_pos x h
theorem nonneg_pos {l : List Run} (h : ∀ r ∈ l, 1 ≤ r.2) : ∀ r ∈ l, 0 ≤ r.2 := fun r hr => by have := h r hr; omega
section
variable {P : Program} {w : World} {K : PySem.W.Frag} {mg : Str → Option Value} {base : Heap}
/-! paired_runs: slots 0:counts 1:half 2:firsts 3:seconds 4:runs 5:size -/
abbrev s_paired_runs : Stmt := topS 47
theorem sc_paired_runs : FnScope ["counts", "half", "firsts", "seconds", "runs", "size"] ["counts"] (defScope s_paired_runs) := ⟨rfl, rfl, rfl, by decide +kernel, rfl, by decide +kernel, by decide +kernel⟩
def sp_paired_runs : Sp := fun vs H Q _ => ∃ (a : Addr) (cs : List Run), vs = [.ref a] ∧ Runs H a cs ∧ cs.length ≤ 12 ∧ (∀ r ∈ cs, 0 ≤ r.2) ∧ ∀ H' p rs, Same H H' → H p = none → Runs H' p rs → rs.length ≤ 1000 → Q (.ref p) H'
theorem ok_paired_runs (D : Df K mg "paired_runs" s_paired_runs) (T : Tx mg) (G_length_of : Has P w K mg base 1 "length_of" ["runs"] sp_length_of) (G_cut : Has P w K mg base 1 "cut" ["runs", "start", "length"] sp_cut) (G_add_run : Has P w K mg base 1 "add_run" ["runs", "kind", "count"] sp_add_run) : Has P w K mg base 2 "paired_runs" ["counts"] sp_paired_runs := by
  refine has_of D sc_paired_runs (fun _ _ _ _ _ _ us hl => match us, hl with | [_], _ => rfl) (fun vs H Q E h => ?_) (fun f cdv A outer s₀ H vs Q E hr h => ?_)
  · obtain ⟨_, _, rfl, _⟩ := h
    rfl
  · obtain ⟨a, cs, rfl, hR, l12, nn, q⟩ := h
    have l0 : 0 ≤ lenR cs := by
      have gen : ∀ l : List Run, (∀ r ∈ l, 0 ≤ r.2) → 0 ≤ lenR l := by
        intro l
        induction l with
        | nil => intro _; exact Int.le_refl _
        | cons r t ih =>
          intro k
          have h1 := k r (List.mem_cons_self ..)
          have h2 := ih fun x hx => k x (List.mem_cons_of_mem _ hx)
          rw [lenR_cons]
          omega
      exact gen cs nn
    refine ⟨_, (pss_cons (ps_set (i := 1) sc_paired_runs.nd rfl (by first | exact Or.inl rfl | exact Or.inr rfl) (pe_op op_fdiv (pe_callH G_length_of (hr.mono (by omega)) (by rfl) (pa_cons (pv 0) pa_nil)) pe_int))
    (pss_cons (ps_set (i := 2) sc_paired_runs.nd rfl (by first | exact Or.inl rfl | exact Or.inr rfl) (pe_callH G_cut (hr.mono (by omega)) (by rfl) (pa_cons (pv 0) (pa_cons pe_int (pa_cons (pv 1) pa_nil)))))
    (pss_cons (ps_set (i := 3) sc_paired_runs.nd rfl (by first | exact Or.inl rfl | exact Or.inr rfl) (pe_callH G_cut (hr.mono (by omega)) (by rfl) (pa_cons (pv 0) (pa_cons (pv 1) (pa_cons (pv 1) pa_nil)))))
    (pss_cons (ps_set (i := 4) sc_paired_runs.nd rfl (by first | exact Or.inl rfl | exact Or.inr rfl) (pe_lst pa_nil))
    (pss_cons (ps_while PassesOwn.never (pt_truth (pv 2) (by intro _; rfl))
      (pss_cons (ps_set (i := 5) sc_paired_runs.nd rfl (by first | exact Or.inl rfl | exact Or.inr rfl) (pe_callB (call_min2 rfl) (by rfl) T.n_min (by decide +kernel) (pa_cons (pe_ix ix_tup (pe_ix ix_list (pv 2) pe_int (fun _ _ => rfl)) pe_int (fun _ _ => rfl)) (pa_cons (pe_ix ix_tup (pe_ix ix_list (pv 3) pe_int (fun _ _ => rfl)) pe_int (fun _ _ => rfl)) pa_nil))))
    (pss_cons (ps_expr (pe_callH G_add_run (hr.mono (by omega)) (by rfl) (pa_cons (pv 4) (pa_cons (pe_ix ix_tup (pe_ix ix_list (pv 2) pe_int (fun _ _ => rfl)) pe_int (fun _ _ => rfl)) (pa_cons (pv 5) pa_nil)))))
    (pss_cons (ps_expr (pe_callH G_add_run (hr.mono (by omega)) (by rfl) (pa_cons (pv 4) (pa_cons (pe_ix ix_tup (pe_ix ix_list (pv 3) pe_int (fun _ _ => rfl)) pe_int (fun _ _ => rfl)) (pa_cons (pv 5) pa_nil)))))
    (pss_cons (ps_set (i := 2) sc_paired_runs.nd rfl (by first | exact Or.inl rfl | exact Or.inr rfl) (pe_callH G_cut (hr.mono (by omega)) (by rfl) (pa_cons (pv 2) (pa_cons (pv 5) (pa_cons (pv 1) pa_nil)))))
    (pss_one (ps_set (i := 3) sc_paired_runs.nd rfl (by first | exact Or.inl rfl | exact Or.inr rfl) (pe_callH G_cut (hr.mono (by omega)) (by rfl) (pa_cons (pv 3) (pa_cons (pv 5) (pa_cons (pv 1) pa_nil)))))))))))
    (pss_one (ps_ret (pv 4)))))))), ?_⟩
    refine ⟨_, rfl, a, cs, rfl, hR, by omega, fun H1 s1 => ⟨_, _, rfl, rfl, ⟨by decide, by decide⟩, ?_⟩⟩
    obtain ⟨hf, ehf⟩ : ∃ hf : Int, lenR cs / 2 = hf := ⟨_, rfl⟩
    have hf0 : 0 ≤ hf ∧ 2 * hf ≤ lenR cs := by omega
    refine gen_set (n := hf) (congrArg V.int ehf) ?_
    refine ⟨_, rfl, _, rfl, a, cs, 0, hf, rfl, hR.same s1, by omega, fun H2 pf s2 n2 h2 => ?_⟩
    refine ⟨_, rfl, _, rfl, _, rfl, a, cs, hf, hf, rfl, (hR.same s1).same s2, by omega, fun H3 ps s3 n3 h3 => ?_⟩
    have f1 : lenR (cutR 0 (0 + hf) 0 cs) = hf := by
      rw [len_cut (by omega) cs 0 nn]
      unfold clmp
      split <;> split <;> (try split) <;> (try split) <;> omega
    have f2 : lenR (cutR hf (hf + hf) 0 cs) = hf := by
      rw [len_cut (by omega) cs 0 nn]
      unfold clmp
      split <;> split <;> (try split) <;> (try split) <;> omega
    have p1 := cutR_pos (s := 0) (e := 0 + hf) (l := cs) (b := 0)
    have p2 := cutR_pos (s := hf) (e := hf + hf) (l := cs) (b := 0)
    have c1 := cutR_len 0 (0 + hf) cs 0
    have c2 := cutR_len hf (hf + hf) cs 0
    have h2 := h2.same s3
    generalize cutR 0 (0 + hf) 0 cs = F0 at *
    generalize cutR hf (hf + hf) 0 cs = S0 at *
    refine ⟨Nat.zero_le _, fun R nR => ?_⟩
    have sR := same_upd (o := .lst []) nR
    have s123 := s1.trans (s2.trans s3)
    have nRH : H R = none := s123.free nR
    have pfR : pf ≠ R := by
      obtain ⟨_, e, _⟩ := h2
      exact ne_of_none e nR
    have psR : ps ≠ R := by
      obtain ⟨_, e, _⟩ := h3
      exact ne_of_none e nR
    refine ⟨fun m σ H' => ∃ pf ps F S Rl y5, σ = [some (.ref a), some (.int hf), some (.ref pf), some (.ref ps), some (.ref R), y5] ∧ m = F.length + S.length ∧ Same H H' ∧ pf ≠ R ∧ ps ≠ R ∧ Runs H' pf F ∧ Runs H' ps S ∧ Runs H' R Rl ∧ (∀ r ∈ F, 1 ≤ r.2) ∧ (∀ r ∈ S, 1 ≤ r.2) ∧ lenR F = lenR S ∧ lenR F ≤ hf ∧ Rl.length + 2 * (F.length + S.length) ≤ 60,
      ⟨_, pf, ps, F0, S0, [], none, rfl, rfl, s123.trans sR, pfR, psR, h2.same sR, h3.same sR, ⟨[], upd_same, .nil⟩, p1, p2, f1.trans f2.symm, by omega, by show 0 + 2 * (F0.length + S0.length) ≤ 60; omega⟩, fun m σ H4 hP => ?_⟩
    clear h2 h3 p1 p2 c1 c2 f1 f2 pfR psR
    obtain ⟨pf, ps, F, S, Rl, y5, rfl, rfl, sm, pfR, psR, hF, hS, hL, pF, pS, eq, le, lb⟩ := hP
    have hF0 := hF
    have hS0 := hS
    obtain ⟨xs, hx, hpx⟩ := hF
    obtain ⟨ys, hy, hpy⟩ := hS
    refine ⟨_, rfl, !xs.isEmpty, .inl ⟨xs, .of hx, rfl⟩, ?_⟩
    cases F with
    | nil =>
      cases hpx
      exact iteN rfl ⟨_, rfl, q _ R Rl sm nRH hL (by omega)⟩
    | cons f0 Ft =>
      cases hpx with
      | cons hf1 hft =>
        have f0p := pF f0 (List.mem_cons_self ..)
        have ft0 := lenR_nn (rs := Ft) fun x hx => pF x (List.mem_cons_of_mem _ hx)
        rw [lenR_cons] at eq le
        cases S with
        | nil =>
          rw [lenR_nil] at eq
          omega
        | cons s0 St =>
          cases hpy with
          | cons hs1 hst =>
            have s0p := pS s0 (List.mem_cons_self ..)
            have st0 := lenR_nn (rs := St) fun x hx => pS x (List.mem_cons_of_mem _ hx)
            rw [lenR_cons] at eq
            obtain ⟨tf, rfl, htf⟩ := hf1
            obtain ⟨ts, rfl, hts⟩ := hs1
            have a0 : ∀ {x : V} {l : List V}, atI (x :: l) 0 = some x := fun {x l} => atI_ofR (Int.le_refl _) rfl
            refine iteP rfl ⟨fun σ' H' => ∃ pf' ps' F' S' Rl' y5, σ' = [some (.ref a), some (.int hf), some (.ref pf'), some (.ref ps'), some (.ref R), y5] ∧ F'.length + S'.length < (f0 :: Ft).length + (s0 :: St).length ∧ Same H H' ∧ pf' ≠ R ∧ ps' ≠ R ∧ Runs H' pf' F' ∧ Runs H' ps' S' ∧ Runs H' R Rl' ∧ (∀ r ∈ F', 1 ≤ r.2) ∧ (∀ r ∈ S', 1 ≤ r.2) ∧ lenR F' = lenR S' ∧ lenR F' ≤ hf ∧ Rl'.length + 2 * (F'.length + S'.length) ≤ 60, fun σ' H' z => ?_, ?_⟩
            · obtain ⟨pf', ps', F', S', Rl', y5, e1, e2, r⟩ := z
              exact ⟨_, e2, pf', ps', F', S', Rl', y5, e1, rfl, r⟩
            refine ⟨_, rfl, pf, _, 0, _, rfl, rfl, .of hx, a0, tf, _, 1, _, rfl, rfl, .of htf, at1, _, rfl, ps, _, 0, _, rfl, rfl, .of hy, a0, ts, _, 1, _, rfl, rfl, .of hts, at1, _, _, rfl, ?_⟩
            obtain ⟨z, ez⟩ : ∃ z : Int, (if s0.2 < f0.2 then s0.2 else f0.2) = z := ⟨_, rfl⟩
            refine gen_set (n := z) (congrArg V.int ez) ?_
            have zf : 1 ≤ z ∧ z ≤ f0.2 ∧ z ≤ s0.2 ∧ (z = f0.2 ∨ z = s0.2) := by
              rw [← ez]
              split <;> omega
            clear ez
            refine ⟨_, rfl, _, rfl, pf, _, 0, _, rfl, rfl, .of hx, a0, tf, _, 0, _, rfl, rfl, .of htf, at0, _, rfl, R, Rl, (f0.1, z), rfl, hL, by omega, fun H5 b5 h5 => ?_⟩
            obtain ⟨accL, hLx, _⟩ := id hL
            have hF5 := Runs.butB hLx pfR b5 hF0
            have hS5 := Runs.butB hLx psR b5 hS0
            have sm5 : Same H H5 := Same.butB nRH sm b5
            have hy5 := b5 _ _ psR hy
            have hts5 := b5 _ _ (ne_of hts hLx (by intro q; cases q)) hts
            have l5 := addR_len Rl (f0.1, z)
            refine ⟨_, rfl, _, rfl, ps, _, 0, _, rfl, rfl, .of hy5, a0, ts, _, 0, _, rfl, rfl, .of hts5, at0, _, rfl, R, _, (s0.1, z), rfl, h5, by omega, fun H6 b6 h6 => ?_⟩
            obtain ⟨accM, hMx, _⟩ := id h5
            have hF6 := Runs.butB hMx pfR b6 hF5
            have hS6 := Runs.butB hMx psR b6 hS5
            have sm6 : Same H H6 := Same.butB nRH sm5 b6
            have l6 := addR_len (addR Rl (f0.1, z)) (s0.1, z)
            have lF : (f0 :: Ft).length ≤ 1000 := by omega
            have lS : (s0 :: St).length ≤ 1000 := by omega
            refine ⟨_, rfl, _, rfl, _, rfl, pf, _, z, hf, rfl, hF6, lF, fun H7 p7 s7 n7 h7 => ?_⟩
            refine ⟨_, rfl, _, rfl, _, rfl, ps, _, z, hf, rfl, hS6.same s7, lS, fun H8 p8 s8 n8 h8 => ?_⟩
            have hL8 := (h6.same s7).same s8
            have p7R : p7 ≠ R := by
              obtain ⟨_, e, _⟩ := h6
              exact (ne_of_none e n7).symm
            have p8R : p8 ≠ R := by
              obtain ⟨_, e, _⟩ := h6.same s7
              exact (ne_of_none e n8).symm
            have g1 : lenR (cutR z (z + hf) 0 (f0 :: Ft)) = f0.2 + lenR Ft - z := by
              rw [len_cut (by omega) _ 0 (nonneg_pos pF), lenR_cons]
              unfold clmp
              split <;> split <;> (try split) <;> (try split) <;> omega
            have g2 : lenR (cutR z (z + hf) 0 (s0 :: St)) = s0.2 + lenR St - z := by
              rw [len_cut (by omega) _ 0 (nonneg_pos pS), lenR_cons]
              unfold clmp
              split <;> split <;> (try split) <;> (try split) <;> omega
            have c1 := cutR_len z (z + hf) (f0 :: Ft) 0
            have c2 := cutR_len z (z + hf) (s0 :: St) 0
            have cc : (cutR z (z + hf) 0 (f0 :: Ft)).length + (cutR z (z + hf) 0 (s0 :: St)).length + 1 ≤ (f0 :: Ft).length + (s0 :: St).length := by
              rcases zf.2.2.2 with e | e
              · have := cut_short (t := Ft) (h := hf) (by omega) e (by omega)
                rw [List.length_cons, List.length_cons] at *
                omega
              · have := cut_short (t := St) (h := hf) (by omega) e (by omega)
                rw [List.length_cons, List.length_cons] at *
                omega
            exact ⟨p7, p8, _, _, _, _, rfl, by omega, sm6.trans (s7.trans s8), p7R, p8R, h7.same s8, h8, hL8, cutR_pos, cutR_pos, by rw [g1, g2]; omega, by rw [g1]; omega, by omega⟩
end
end UP

set_option Elab.async false
set_option linter.all false
set_option maxRecDepth 100000
set_option maxHeartbeats 4000000
namespace UP
open PySem PySem.Spec PyProof.Rows L2
/-! ### copied, and the error that keeps a reason -/
def sp_nil : Sp := fun _ _ _ _ => False
def sp_atom : Sp := fun vs H Q _ => ∃ v : V, vs = [v] ∧ ((∃ z, v = .str z) ∨ ∃ n, v = .int n) ∧ Q v H
def sp_copied : Sp := fun vs H Q _ => ∃ (t : Addr) (ys : List V), vs = [.ref t] ∧ H t = some (.tup ys) ∧ FlatL ys ∧ ∀ H' u, Same H H' → Q (.ref u) H'
section
variable {P : Program} {w : World} {K : PySem.W.Frag} {mg : Str → Option Value} {base : Heap}
/-! copied: slots 0:value 1:part -/
abbrev s_copied : Stmt := topS 1
theorem sc_copied : FnScope ["value", "part"] ["value"] (defScope s_copied) := ⟨rfl, rfl, rfl, by decide +kernel, rfl, by decide +kernel, by decide +kernel⟩
theorem nil_copied (D : Df K mg "copied" s_copied) : Has P w K mg base 1 "copied" ["value"] sp_nil :=
  has_of D sc_copied (fun _ _ _ _ _ _ us hl => match us, hl with | [_], _ => rfl) (fun _ _ _ _ h => h.elim) (fun _ _ _ _ _ _ _ _ _ _ h => h.elim)
theorem atom_copied (D : Df K mg "copied" s_copied) (T : Tx mg) (G_copied : Has P w K mg base 1 "copied" ["value"] sp_nil) : Has P w K mg base 2 "copied" ["value"] sp_atom := by
  refine has_of D sc_copied (fun _ _ _ _ _ _ us hl => match us, hl with | [_], _ => rfl) (fun vs H Q E h => ?_) (fun f cdv A outer s₀ H vs Q E hr h => ?_)
  · obtain ⟨v, rfl, _⟩ := h
    rfl
  · obtain ⟨v, rfl, hv, q⟩ := h
    refine ⟨_, (pss_cons (ps_if (pt_val (pe_callB call_isi (by rfl) T.n_isinstance (by decide +kernel) (pa_cons (pv 0) (pa_cons (pe_bltn (v := .ty "list") (by rfl) T.n_list (by decide +kernel) rfl) pa_nil)))) (pss_one (ps_ret (pe_lc (own := [("part", 1)]) rfl sc_copied.nd (pi_seqV 0) (blkOk_by (N := ["value", "part"]) (sc := defScope s_copied) (by decide +kernel)) (fun _ _ _ _ _ => (pg_name (i := 1) sc_copied.nd rfl (by first | exact Or.inl rfl | exact Or.inr rfl))) (fun _ _ _ _ _ => pts_nil) (fun _ _ _ _ _ => (pe_callH G_copied (hr.mono (by omega)) (by rfl) (pa_cons (pv 1) pa_nil)))))) pss_nil)
    (pss_cons (ps_if (pt_val (pe_callB call_isi (by rfl) T.n_isinstance (by decide +kernel) (pa_cons (pv 0) (pa_cons (pe_bltn (v := .ty "tuple") (by rfl) T.n_tuple (by decide +kernel) rfl) pa_nil)))) (pss_one (ps_ret (pe_callTy call_tuple_of (by rfl) T.n_tuple (by decide +kernel) (pa_cons (pe_lc (own := [("part", 1)]) rfl sc_copied.nd (pi_seqV 0) (blkOk_by (N := ["value", "part"]) (sc := defScope s_copied) (by decide +kernel)) (fun _ _ _ _ _ => (pg_name (i := 1) sc_copied.nd rfl (by first | exact Or.inl rfl | exact Or.inr rfl))) (fun _ _ _ _ _ => pts_nil) (fun _ _ _ _ _ => (pe_callH G_copied (hr.mono (by omega)) (by rfl) (pa_cons (pv 1) pa_nil)))) pa_nil)))) pss_nil)
    (pss_one (ps_ret (pv 0))))), ?_⟩
    rcases hv with ⟨z, rfl⟩ | ⟨n, rfl⟩
    · exact ⟨_, rfl, _, _, _, _, false, rfl, .ty "list", .base (.str z), kit_ty (by decide +kernel), false, rfl, iteF ⟨_, rfl, _, _, _, _, false, rfl, .ty "tuple", .base (.str z), kit_ty (by decide +kernel), false, rfl, iteF ⟨_, rfl, q⟩⟩⟩
    · exact ⟨_, rfl, _, _, _, _, false, rfl, .ty "list", .base (.int n), kit_ty (by decide +kernel), false, rfl, iteF ⟨_, rfl, _, _, _, _, false, rfl, .ty "tuple", .base (.int n), kit_ty (by decide +kernel), false, rfl, iteF ⟨_, rfl, q⟩⟩⟩
theorem flat_copied (D : Df K mg "copied" s_copied) (T : Tx mg) (G_copied : Has P w K mg base 2 "copied" ["value"] sp_atom) : Has P w K mg base 3 "copied" ["value"] sp_copied := by
  refine has_of D sc_copied (fun _ _ _ _ _ _ us hl => match us, hl with | [_], _ => rfl) (fun vs H Q E h => ?_) (fun f cdv A outer s₀ H vs Q E hr h => ?_)
  · obtain ⟨t, ys, rfl, _⟩ := h
    rfl
  · obtain ⟨t, ys, rfl, ht, fl, q⟩ := h
    refine ⟨_, (pss_cons (ps_if (pt_val (pe_callB call_isi (by rfl) T.n_isinstance (by decide +kernel) (pa_cons (pv 0) (pa_cons (pe_bltn (v := .ty "list") (by rfl) T.n_list (by decide +kernel) rfl) pa_nil)))) (pss_one (ps_ret (pe_lc (own := [("part", 1)]) rfl sc_copied.nd (pi_seqV 0) (blkOk_by (N := ["value", "part"]) (sc := defScope s_copied) (by decide +kernel)) (fun _ _ _ _ _ => (pg_name (i := 1) sc_copied.nd rfl (by first | exact Or.inl rfl | exact Or.inr rfl))) (fun _ _ _ _ _ => pts_nil) (fun _ _ _ _ _ => (pe_callH G_copied (hr.mono (by omega)) (by rfl) (pa_cons (pv 1) pa_nil)))))) pss_nil)
    (pss_cons (ps_if (pt_val (pe_callB call_isi (by rfl) T.n_isinstance (by decide +kernel) (pa_cons (pv 0) (pa_cons (pe_bltn (v := .ty "tuple") (by rfl) T.n_tuple (by decide +kernel) rfl) pa_nil)))) (pss_one (ps_ret (pe_callTy call_tuple_of (by rfl) T.n_tuple (by decide +kernel) (pa_cons (pe_lc (own := [("part", 1)]) rfl sc_copied.nd (pi_seqV 0) (blkOk_by (N := ["value", "part"]) (sc := defScope s_copied) (by decide +kernel)) (fun _ _ _ _ _ => (pg_name (i := 1) sc_copied.nd rfl (by first | exact Or.inl rfl | exact Or.inr rfl))) (fun _ _ _ _ _ => pts_nil) (fun _ _ _ _ _ => (pe_callH G_copied (hr.mono (by omega)) (by rfl) (pa_cons (pv 1) pa_nil)))) pa_nil)))) pss_nil)
    (pss_one (ps_ret (pv 0))))), ?_⟩
    refine ⟨_, rfl, _, _, _, _, false, rfl, .ty "list", .base (.tup ht), kit_ty (by decide +kernel), false, rfl, iteF ⟨_, rfl, _, _, _, _, true, rfl, .ty "tuple", .base (.tup ht), kit_ty (by decide +kernel), true, rfl, iteT ?_⟩⟩
    refine ⟨t, ys, rfl, .inr ht, fun J wk L nL => lc_wk wk (fun i H' => Same H H' ∧ H' L = some (.lst (ys.take i))) (fun _ _ p => p.1) ⟨same_upd nL, upd_same⟩ (fun i x H2 ex p => ?_) (fun H2 p => ?_)⟩
    · obtain ⟨sm, hL⟩ := p
      refine ⟨rfl, yesT ⟨_, rfl, x, rfl, fl.2 x (List.mem_of_getElem? ex), _, hL, ?_, same_grow nL sm, ?_⟩⟩
      · rw [List.length_take]
        have := fl.1
        exact small (by omega)
      · rw [upd_same, take_snoc ex]
    · obtain ⟨sm, hL⟩ := p
      exact ⟨L, _, rfl, .inl ⟨.of hL, fun l nl => q _ l (sm.trans (same_upd nl))⟩⟩
theorem ok_copied (D : Df K mg "copied" s_copied) (T : Tx mg) : Has P w K mg base 3 "copied" ["value"] sp_copied := flat_copied D T (atom_copied D T (nil_copied D))
abbrev s_reason : Stmt := inClass (topS 19) 0
theorem sc_reason : FnScope ["self", "reason"] ["self", "reason"] (defScope s_reason) := ⟨rfl, rfl, rfl, by decide +kernel, rfl, by decide +kernel, by decide +kernel⟩
/-- the class Impossible stands at C -/
structure ImpF (K : PySem.W.Frag) (mg : Str → Option Value) (C : Addr) : Prop where
  g : mg "Impossible" = some (.ref C)
  o : OexC K C
  n : PySem.W.findIn K (.ref C) "reason" = some none
  i : ∃ (fI : Addr) (fd : FuncData), PySem.W.findIn K (.ref C) "__init__" = some (some (.ref fI)) ∧ PySem.W.typeIn K (.ref fI) = some (.type "function") ∧ Fun K "__init__" "Impossible.__init__" s_reason fI fd
def sp_reason (C : Addr) : Sp := fun vs H Q _ => ∃ (a t : Addr) (ys : List V), vs = [.ref a, .ref t] ∧ H a = some (exo a C none) ∧ H t = some (.tup ys) ∧ FlatL ys ∧ ∀ H1 dx y, Same H H1 → H1 dx = none → dx ≠ a → Q .non (upd (upd H1 dx (exd dx [("reason", y)])) a (exo a C (some dx)))
theorem ok_reason {f C : Addr} {fd : FuncData} (F : Fun K "__init__" "Impossible.__init__" s_reason f fd) (O : OexC K C) (N : PySem.W.findIn K (.ref C) "reason" = some none) (G_copied : Has P w K mg base 3 "copied" ["value"] sp_copied) : FnOk P w K mg base CX0 4 f fd ["self", "reason"] (sp_reason C) := by
  refine F.ok sc_reason (fun vs H Q E h => ?_) (fun cdv A outer s H vs Q E hr h => ?_)
  · obtain ⟨a, t, ys, rfl, _⟩ := h
    rfl
  · obtain ⟨a, t, ys, rfl, ha, ht, fl, q⟩ := h
    refine ⟨_, pss_one (ps_ost (pv 0) (pe_callH G_copied (hr.mono (by omega)) (by rfl) (pa_cons (pv 1) pa_nil))), ?_⟩
    refine ⟨_, rfl, t, ys, rfl, ht, fl, fun H1 u s1 => ?_⟩
    exact ⟨_, rfl, a, C, rfl, O, N, .inl ⟨s1 _ _ ha, fun dx nd ne => q _ _ _ s1 nd ne⟩⟩
theorem passX0 {X : Cx} {P : Program} {w : World} : Passes (L2.CX P w) X E0 := fun _ _ _ _ _ _ _ h => by
  obtain ⟨_, _, _, _, _, _, _, _, _, _, _, _, z⟩ := h
  exact z.elim
/-! sequence_for: slots 0:counts 1:state 2:reasons 3:runs -/
abbrev s_sequence_for : Stmt := topS 52
theorem sc_sequence_for : FnScope ["counts", "state", "reasons", "runs"] ["counts", "state"] (defScope s_sequence_for) := ⟨rfl, rfl, rfl, by decide +kernel, rfl, by decide +kernel, by decide +kernel⟩
def sp_sequence_for (CC CT CI : Addr) : Sp := fun vs H Q E => ∃ (v u : V) (d e : Dat), vs = [v, u] ∧ Rp H v d ∧ d.fits ∧ Rp H u e ∧ e.fit2 ∧ (d.counts = true → e.state = true → CanR d.runs e.stt → ∀ H' x, Same H H' → Q x H') ∧ (d.counts = false → ∀ H', Same H H' → E (.ref CC) none H') ∧ (d.counts = true → e.state = false → ∀ H', Same H H' → E (.ref CT) none H') ∧
  (d.counts = true → e.state = true → ¬ CanR d.runs e.stt → ∀ H' dx, Same H H' → DOk H' (some dx) → E (.ref CI) (some dx) H')
theorem ok_sequence_for {CC CT CI : Addr} (D : Df K mg "sequence_for" s_sequence_for) (T : Tx mg) (I1 : ImpF K mg CI) (G_copied : Has P w K mg base 3 "copied" ["value"] sp_copied) (G_checked_counts : HasX P w K mg base 5 "checked_counts" ["counts"] (sp_checked_counts CC)) (G_checked_state : HasX P w K mg base 3 "checked_state" ["state"] (sp_checked_state CT)) (G_reasons_in : Has P w K mg base 3 "reasons_in" ["counts", "state"] sp_reasons_in)
    (G_counts_without : Has P w K mg base 2 "counts_without" ["counts", "state"] sp_counts_without) (G_paired_runs : Has P w K mg base 2 "paired_runs" ["counts"] sp_paired_runs) (G_add_run : Has P w K mg base 1 "add_run" ["runs", "kind", "count"] sp_add_run) : HasX P w K mg base 6 "sequence_for" ["counts", "state"] (sp_sequence_for CC CT CI) := by
  refine hasX_of D sc_sequence_for (fun _ _ _ _ _ _ us hl => match us, hl with | [_, _], _ => rfl) (fun vs H Q E h => ?_) (fun f cdv A outer s H vs Q E hr h => ?_)
  · obtain ⟨_, _, _, _, rfl, _⟩ := h
    rfl
  · obtain ⟨v, u, d, e, rfl, hv, fv, hu, fu, q, q1, q2, q3⟩ := h
    obtain ⟨fI, fdI, iC, tI, FI⟩ := I1.i
    have F1 := ok_reason (P := P) (w := w) (base := base) FI I1.o I1.n G_copied
    have b1 := FI.binds (ps := ["self", "reason"]) fun _ _ _ _ _ _ us hl => match us, hl with | [_, _], _ => rfl
    refine ⟨_, (pss_cons (ps_set (i := 0) sc_sequence_for.nd rfl (by first | exact Or.inl rfl | exact Or.inr rfl) (pe_callXH G_checked_counts (takes_of rfl rfl rfl rfl) (hr.mono (by omega)) (by rfl) (pa_cons (pv 0) pa_nil)))
    (pss_cons (ps_set (i := 1) sc_sequence_for.nd rfl (by first | exact Or.inl rfl | exact Or.inr rfl) (pe_callXH G_checked_state (takes_of rfl rfl rfl rfl) (hr.mono (by omega)) (by rfl) (pa_cons (pv 1) pa_nil)))
    (pss_cons (ps_set (i := 2) sc_sequence_for.nd rfl (by first | exact Or.inl rfl | exact Or.inr rfl) (pe_callH G_reasons_in (hr.mono (by omega)) (by rfl) (pa_cons (pv 0) (pa_cons (pv 1) pa_nil))))
    (pss_cons (ps_if (pt_truth (pv 2) (by intro _; rfl)) (pss_one (ps_raise rfl (takes_of rfl rfl rfl rfl) (pmk_oex I1.o iC tI F1 (hr.mono (by omega)) b1 .nil (fun _ _ _ _ _ _ _ h => h.elim) (by rfl) I1.g (pa_cons (pe_ix ix_list (pv 2) pe_int (fun _ _ => rfl)) pa_nil)))) pss_nil)
    (pss_cons (ps_set (i := 3) sc_sequence_for.nd rfl (by first | exact Or.inl rfl | exact Or.inr rfl) (pe_callH G_paired_runs (hr.mono (by omega)) (by rfl) (pa_cons (pe_callH G_counts_without (hr.mono (by omega)) (by rfl) (pa_cons (pv 0) (pa_cons (pv 1) pa_nil))) pa_nil)))
    (pss_cons (ps_if (pt_cmpR op_notN (pv 1) pe_non (nomark _)) (pss_one (ps_expr (pe_callH G_add_run (hr.mono (by omega)) (by rfl) (pa_cons (pv 3) (pa_cons (pe_ix ix_tup (pv 1) pe_int (fun _ _ => rfl)) (pa_cons (pe_ix ix_tup (pv 1) pe_int (fun _ _ => rfl)) pa_nil)))))) pss_nil)
    (pss_one (ps_ret (pv 3))))))))), ?_⟩
    refine ⟨_, rfl, v, d, rfl, hv, fv, fun c1 H1 p s1 np hp => ?_, fun c1 H1 s1 => q1 c1 _ s1⟩
    refine ⟨_, rfl, u, e, rfl, hu.same s1, fu, fun c2 H2 v2 s2 h2 => ?_, fun c2 H2 s2 => q2 c1 c2 _ (s1.trans s2)⟩
    have ok := (cts_rp hv c1).2
    have q9 := q c1 c2
    have q8 := q3 c1 c2
    have sA := s1.trans s2
    have hp := hp.same s2
    generalize d.runs = cs at *
    generalize e.stt = st at *
    refine ⟨_, rfl, _, rfl, p, cs, v2, _, rfl, hp, ok.1, h2, fun H3 p3 n s3 n3 h3 hn => ?_⟩
    have sB := sA.trans s3
    obtain ⟨xs, hx, lx, rx⟩ := h3
    refine ⟨_, rfl, !xs.isEmpty, .inl ⟨xs, .of hx, rfl⟩, ?_⟩
    cases xs with
    | nil =>
      have cr : CanR cs st := hn.mp lx.symm
      refine iteN rfl ?_
      refine ⟨_, rfl, _, rfl, p, cs, v2, st, rfl, hp.same s3, ok.1, h2.same s3, fun H4 p4 s4 n4 h4 => ?_⟩
      have nn : ∀ r ∈ cwR cs st, 0 ≤ r.2 := by
        intro r hr
        unfold cwR at hr
        obtain ⟨x, hx, rfl⟩ := List.mem_map.mp hr
        have h1 := (ok.2.1 x hx).2.1
        show 0 ≤ (if kdV st = .str x.1 then x.2 - numR st else x.2)
        split
        · rename_i c
          have := cr.2.1 x hx c
          omega
        · omega
      refine ⟨p4, _, rfl, h4, by rw [cw_len]; exact ok.1, nn, fun H5 p5 rs s5 n5 h5 l5 => ?_⟩
      have sC := sB.trans (s4.trans s5)
      have h25 := (h2.same s3).same (s4.trans s5)
      cases st with
      | none =>
        cases h25
        exact ⟨_, rfl, rfl, _, rfl, iteN rfl ⟨_, rfl, q9 cr _ _ sC⟩⟩
      | some r =>
        obtain ⟨t, rfl, ht⟩ := h25
        refine ⟨_, rfl, rfl, _, rfl, iteP rfl ⟨_, rfl, _, rfl, t, _, 0, _, rfl, rfl, .of ht, at0, _, rfl, t, _, 1, _, rfl, rfl, .of ht, at1, p5, rs, r, rfl, h5, by omega, fun H6 b6 h6 => ?_⟩⟩
        have n5H : H p5 = none := (sB.trans s4).free n5
        exact ⟨_, rfl, q9 cr _ _ (Same.butB n5H sC b6)⟩
    | cons y ys =>
      have cr : ¬ CanR cs st := fun z => by
        have := hn.mpr z
        rw [List.length_cons] at lx
        omega
      obtain ⟨t, zs, rfl, ht, fl⟩ := rx y (List.mem_cons_self ..)
      refine iteP rfl ⟨_, rfl, p3, _, 0, _, rfl, rfl, .of hx, atI_ofR (Int.le_refl _) rfl, (by show 1 ≤ 1000; decide), fun a na => ?_⟩
      have ta : t ≠ a := ne_of_none ht na
      refine ⟨a, t, zs, rfl, upd_same, by rw [upd_ne ta]; exact ht, fl, fun H4 dx yv s4 nd ne => ⟨rfl, dx, _, upd_same, by rw [upd_ne ne, upd_same], ?_, ?_⟩⟩
      · exact (same_upd na).free (s4.free nd)
      · refine q8 cr _ dx (fun b o hb => ?_) (fun d' e' => by cases e'; exact ⟨_, upd_same⟩)
        have hb3 := sB _ _ hb
        have ba : b ≠ a := ne_of_none hb3 na
        have hb4 := s4 _ _ (same_upd (o := exo a CI none) na _ _ hb3)
        have bd : b ≠ dx := ne_of_none hb4 nd
        rw [upd_ne bd, del_ne ba, upd_ne ba, upd_ne bd]
        exact hb4
end
end UP

set_option Elab.async false
set_option linter.all false
set_option maxRecDepth 100000
set_option maxHeartbeats 4000000
namespace UP
open PySem PySem.Spec PyProof.Rows L2
/-! ### written values -/
def Lit (σ : L2.St) (H0 : Hp) (t : TE) (d : Dat) : Prop := ∀ H (Q : VK), Same H0 H → (∀ H' v, Same H H' → Rp H' v d → Q v H') → t σ H Q
def Lits (σ : L2.St) (H0 : Hp) (t : TA) (ds : List Dat) : Prop := ∀ H (Q : List V → Hp → Prop), Same H0 H → (∀ H' vs, Same H H' → Paired (Rp H') vs ds → Q vs H') → t σ H Q
section
variable {σ : L2.St} {H0 : Hp}
theorem Lit.go {H : Hp} {t : TE} {d : Dat} {Q : VK} (h : Lit σ H t d) (q : ∀ H' v, Same H H' → Rp H' v d → Q v H') : t σ H Q := h H Q (Same.refl _) q
theorem lit_non : Lit σ H0 (tC .non) .non := fun H Q _ q => q H _ (Same.refl _) .non
theorem lit_int {n : Int} : Lit σ H0 (tC (.int n)) (.int n) := fun H Q _ q => q H _ (Same.refl _) (.int n)
theorem lit_bl {b : Bool} : Lit σ H0 (tC (.bl b)) (.bl b) := fun H Q _ q => q H _ (Same.refl _) (.bl b)
theorem lit_str {z : Str} : Lit σ H0 (tC (.str z)) (.str z) := fun H Q _ q => q H _ (Same.refl _) (.str z)
theorem lit_dic : Lit σ H0 tDNewK .dic := fun H Q _ q p np => q _ _ (same_upd np) (.dic upd_same)
theorem lit_var {i : Nat} {v : V} {d : Dat} (e : σ[i]? = some (some v)) (h : Rp H0 v d) : Lit σ H0 (tVar i) d := fun H Q s q => ⟨v, e, q H v (Same.refl _) (h.same s)⟩
theorem lit_val {t : TE} {v : V} {d : Dat} (h : ∀ H (Q : VK), Q v H → t σ H Q) (r : ∀ H, Rp H v d) : Lit σ H0 t d := fun H Q _ q => h H Q (q H v (Same.refl _) (r H))
theorem lits_nil : Lits σ H0 tNil [] := fun H Q _ q => q H [] (Same.refl _) .nil
theorem lits_cons {t : TE} {ts : TA} {d : Dat} {ds : List Dat} (h1 : Lit σ H0 t d) (h2 : Lits σ H0 ts ds) : Lits σ H0 (tCons t ts) (d :: ds) := fun H Q s q => h1 H _ s fun H1 v s1 r1 => h2 H1 _ (s.trans s1) fun H2 vs s2 r2 => q H2 (v :: vs) (s1.trans s2) (.cons (r1.same s2) r2)
theorem rps_same {H H' : Hp} {xs : List V} {ds : List Dat} (s : Same H H') (h : Paired (Rp H) xs ds) : Paired (Rp H') xs ds := Paired.imp (fun _ _ => Rp.same s) h
theorem lit_lst {ts : TA} {ds : List Dat} (h : Lits σ H0 ts ds) (l : ds.length ≤ 1000) : Lit σ H0 (tLst ts) (.lst ds) := fun H Q s q => h H _ s fun H1 vs s1 r => ⟨by rw [Paired.len r]; exact smallE (by omega), fun p np => q _ _ (s1.trans (same_upd np)) (.lst upd_same (rps_same (same_upd np) r))⟩
theorem lit_tup {ts : TA} {ds : List Dat} (h : Lits σ H0 ts ds) (l : ds.length ≤ 1000) : Lit σ H0 (tTup ts) (.tup ds) := fun H Q s q => h H _ s fun H1 vs s1 r => ⟨by rw [Paired.len r]; exact smallE (by omega), fun p np => q _ _ (s1.trans (same_upd np)) (.tup upd_same (rps_same (same_upd np) r))⟩
theorem lit_cat {t u : TE} {a b : List Dat} (h1 : Lit σ H0 t (.lst a)) (h2 : Lit σ H0 u (.lst b)) (l : a.length + b.length ≤ 1000) : Lit σ H0 (tOp rCat t u) (.lst (a ++ b)) := fun H Q s q => h1 H _ s fun H1 v s1 r1 => h2 H1 _ (s.trans s1) fun H2 w s2 r2 => by
  cases r1.same s2 with
  | lst e1 p1 =>
    cases r2 with
    | lst e2 p2 =>
      refine ⟨_, _, _, _, rfl, rfl, e1, e2, ?_, fun p np => q _ _ (s1.trans (s2.trans (same_upd np))) (.lst upd_same (rps_same (same_upd np) (Paired.app p1 p2)))⟩
      rw [Paired.len p1, Paired.len p2]
      exact smallE (by omega)
theorem rep_pair {α β : Type} {F : α → β → Prop} {xs : List α} {ys : List β} (h : Paired F xs ys) : ∀ n : Nat, Paired F (List.replicate n xs).flatten (List.replicate n ys).flatten
  | 0 => .nil
  | n + 1 => by
    rw [List.replicate_succ, List.replicate_succ, List.flatten_cons, List.flatten_cons]
    exact Paired.app h (rep_pair h n)
theorem lit_rep {t : TE} {a : List Dat} {k : Int} (h1 : Lit σ H0 t (.lst a)) (k0 : 0 ≤ k) (k1 : k ≤ 1000) (l : a.length * k.toNat ≤ 1000) : Lit σ H0 (tOp rRep t (tC (.int k))) (.lst (List.replicate k.toNat a).flatten) := fun H Q s q => h1 H _ s fun H1 v s1 r1 => by
  cases r1 with
  | lst e1 p1 =>
    refine ⟨_, k, _, rfl, rfl, e1, by omega, by omega, ?_, fun p np => q _ _ (s1.trans (same_upd np)) (.lst upd_same (rps_same (same_upd np) (rep_pair p1 _)))⟩
    rw [Paired.len p1]
    exact smallE (by omega)
end
/-- an index into a written list -/
theorem rp_at {H : Hp} {v : V} {ds : List Dat} {i : Int} (h : Rp H v (.lst ds)) (i0 : 0 ≤ i) (i1 : i.toNat < ds.length) : ∃ a xs x, v = .ref a ∧ H a = some (.lst xs) ∧ atI xs i = some x ∧ Rp H x ds[i.toNat] := by
  cases h with
  | lst e p =>
    obtain ⟨x, ex, hx⟩ := Paired.at' p (List.getElem?_eq_getElem i1)
    exact ⟨_, _, x, rfl, e, atI_ofR i0 ex, hx⟩
theorem lit_set {t : TE} {d : Dat} {i : Nat} {D : Ends} {rest : TS} {σ : L2.St} {H : Hp} (h : Lit σ H t d) (q : ∀ H' v, Same H H' → Rp H' v d → rest D (σ.set i (some v)) H') : tSeq (tAsg t (gName i)) rest D σ H := h H _ (Same.refl _) q
theorem lit_retIx {K : PySem.W.Frag} {t u : TE} {ds : List Dat} {D : Ends} {σ : L2.St} {H : Hp} (h : Lit σ H t (.lst ds)) (q : ∀ H' v, Same H H' → Rp H' v (.lst ds) → u σ H' (fun y H2 => rIxL K v y H2 D.rt)) : tRet (tOp (rIxL K) t u) D σ H := h H _ (Same.refl _) q
end UP

set_option Elab.async false
set_option linter.all false
set_option maxRecDepth 100000
set_option maxHeartbeats 4000000
namespace UP
open PySem PySem.Spec PyProof.Rows L2
/-! ### values that are new -/
/-- the part of the heap that is new since H0 -/
def newH (H0 H : Hp) : Hp := fun b => match H0 b with
  | none => H b
  | some _ => none
theorem newH_at {H0 H : Hp} {b : Addr} (h : H0 b = none) : newH H0 H b = H b := by
  unfold newH
  rw [h]
theorem newH_old {H0 H : Hp} {b : Addr} {o : HO} (h : H0 b = some o) : newH H0 H b = none := by
  unfold newH
  rw [h]
theorem newH_sub {H0 H : Hp} : Same (newH H0 H) H := fun b o e => by
  cases h : H0 b with
  | none => rw [newH_at h] at e; exact e
  | some o' => rw [newH_old h] at e; cases e
theorem newH_same {H0 H H' : Hp} (s : Same H H') : Same (newH H0 H) (newH H0 H') := fun b o e => by
  cases h : H0 b with
  | none => rw [newH_at h] at e ⊢; exact s _ _ e
  | some o' => rw [newH_old h] at e; cases e
theorem newH_upd {H0 H : Hp} {p : Addr} {o : HO} (h : H0 p = none) : newH H0 (upd H p o) p = some o := by
  rw [newH_at h, upd_same]
/-- an old address may change -/
theorem newH_skip {H0 H : Hp} {G : Addr} {o u : HO} (h : H0 G = some u) : newH H0 (upd H G o) = newH H0 H := by
  funext b
  by_cases e : b = G
  · rw [e, newH_old h, newH_old h]
  · unfold newH
    rw [upd_ne e]
theorem Rp.keepG {H0 H : Hp} {G : Addr} {o u : HO} {v : V} {d : Dat} (h : H0 G = some u) (r : Rp (newH H0 H) v d) : Rp (upd H G o) v d := by
  rw [← newH_skip (o := o) h] at r
  exact r.same newH_sub
def LitF (σ : L2.St) (H0 Hs : Hp) (t : TE) (d : Dat) : Prop := ∀ H (Q : VK), Same H0 H → Same Hs H → (∀ H' v, Same H H' → Rp (newH H0 H') v d → Q v H') → t σ H Q
def LitsF (σ : L2.St) (H0 Hs : Hp) (t : TA) (ds : List Dat) : Prop := ∀ H (Q : List V → Hp → Prop), Same H0 H → Same Hs H → (∀ H' vs, Same H H' → Paired (Rp (newH H0 H')) vs ds → Q vs H') → t σ H Q
section
variable {σ : L2.St} {H0 Hs : Hp}
theorem litF_val {t : TE} {v : V} {d : Dat} (h : ∀ H (Q : VK), Q v H → t σ H Q) (r : ∀ H, Rp H v d) : LitF σ H0 Hs t d := fun H Q _ _ q => h H Q (q H v (Same.refl _) (r _))
theorem litF_non : LitF σ H0 Hs (tC .non) .non := litF_val (fun _ _ q => q) (fun _ => .non)
theorem litF_int {n : Int} : LitF σ H0 Hs (tC (.int n)) (.int n) := litF_val (fun _ _ q => q) (fun _ => .int n)
theorem litF_bl {b : Bool} : LitF σ H0 Hs (tC (.bl b)) (.bl b) := litF_val (fun _ _ q => q) (fun _ => .bl b)
theorem litF_str {z : Str} : LitF σ H0 Hs (tC (.str z)) (.str z) := litF_val (fun _ _ q => q) (fun _ => .str z)
theorem litF_dic : LitF σ H0 Hs tDNewK .dic := fun H Q s _ q p np => q _ _ (same_upd np) (.dic (newH_upd (s.free np)))
theorem litsF_nil : LitsF σ H0 Hs tNil [] := fun H Q _ _ q => q H [] (Same.refl _) .nil
theorem litsF_cons {t : TE} {ts : TA} {d : Dat} {ds : List Dat} (h1 : LitF σ H0 Hs t d) (h2 : LitsF σ H0 Hs ts ds) : LitsF σ H0 Hs (tCons t ts) (d :: ds) := fun H Q s t q => h1 H _ s t fun H1 v s1 r1 => h2 H1 _ (s.trans s1) (t.trans s1) fun H2 vs s2 r2 => q H2 (v :: vs) (s1.trans s2) (.cons (r1.same (newH_same s2)) r2)
theorem litF_lst {ts : TA} {ds : List Dat} (h : LitsF σ H0 Hs ts ds) (l : ds.length ≤ 1000) : LitF σ H0 Hs (tLst ts) (.lst ds) := fun H Q s t q => h H _ s t fun H1 vs s1 r => ⟨by rw [Paired.len r]; exact smallE (by omega), fun p np => q _ _ (s1.trans (same_upd np)) (.lst (newH_upd ((s.trans s1).free np)) (rps_same (newH_same (same_upd np)) r))⟩
theorem litF_tup {ts : TA} {ds : List Dat} (h : LitsF σ H0 Hs ts ds) (l : ds.length ≤ 1000) : LitF σ H0 Hs (tTup ts) (.tup ds) := fun H Q s t q => h H _ s t fun H1 vs s1 r => ⟨by rw [Paired.len r]; exact smallE (by omega), fun p np => q _ _ (s1.trans (same_upd np)) (.tup (newH_upd ((s.trans s1).free np)) (rps_same (newH_same (same_upd np)) r))⟩
theorem litF_var {i : Nat} {v : V} {d : Dat} (e : σ[i]? = some (some v)) (h : Rp (newH H0 Hs) v d) : LitF σ H0 Hs (tVar i) d := fun H Q _ s q => ⟨v, e, q H v (Same.refl _) (h.same (newH_same s))⟩
theorem litF_cat {t u : TE} {a b : List Dat} (h1 : LitF σ H0 Hs t (.lst a)) (h2 : LitF σ H0 Hs u (.lst b)) (l : a.length + b.length ≤ 1000) : LitF σ H0 Hs (tOp rCat t u) (.lst (a ++ b)) := fun H Q s w q => h1 H _ s w fun H1 v s1 r1 => h2 H1 _ (s.trans s1) (w.trans s1) fun H2 x s2 r2 => by
  cases r1.same (newH_same s2) with
  | lst e1 p1 =>
    cases r2 with
    | lst e2 p2 =>
      refine ⟨_, _, _, _, rfl, rfl, newH_sub _ _ e1, newH_sub _ _ e2, ?_, fun p np => q _ _ (s1.trans (s2.trans (same_upd np))) (.lst (newH_upd ((s.trans (s1.trans s2)).free np)) (rps_same (newH_same (same_upd np)) (Paired.app p1 p2)))⟩
      rw [Paired.len p1, Paired.len p2]
      exact smallE (by omega)
end
theorem litF_set {t : TE} {d : Dat} {i : Nat} {D : Ends} {rest : TS} {σ : L2.St} {H0 H : Hp} (s : Same H0 H) (h : LitF σ H0 H t d) (q : ∀ H' v, Same H H' → Rp (newH H0 H') v d → rest D (σ.set i (some v)) H') : tSeq (tAsg t (gName i)) rest D σ H := h H _ s (Same.refl _) q
theorem litF_retIx {K : PySem.W.Frag} {t u : TE} {ds : List Dat} {D : Ends} {σ : L2.St} {H0 H : Hp} (s : Same H0 H) (h : LitF σ H0 H t (.lst ds)) (q : ∀ H' v, Same H H' → Rp (newH H0 H') v (.lst ds) → u σ H' (fun y H2 => rIxL K v y H2 D.rt)) : tRet (tOp (rIxL K) t u) D σ H := h H _ s (Same.refl _) q
theorem litF_setIx {K : PySem.W.Frag} {t u : TE} {ds : List Dat} {i : Nat} {D : Ends} {rest : TS} {σ : L2.St} {H0 H : Hp} (s : Same H0 H) (h : LitF σ H0 H t (.lst ds)) (q : ∀ H' v, Same H H' → Rp (newH H0 H') v (.lst ds) → u σ H' (fun y H2 => rIxL K v y H2 (fun x H3 => rest D (σ.set i (some x)) H3))) : tSeq (tAsg (tOp (rIxL K) t u) (gName i)) rest D σ H := h H _ s (Same.refl _) q
end UP

set_option Elab.async false
set_option linter.all false
set_option maxRecDepth 100000
set_option maxHeartbeats 4000000
namespace UP
open PySem PySem.Spec PyProof.Rows L2
def tpD (p : Str × Bool) : Dat := .tup [.str p.1, .bl p.2]
def nlist (nm : Str) : List (Str × Bool) := [("sequence", decide (("InvalidSequence" : Str) = nm)), ("state", decide (("InvalidState" : Str) = nm)), ("kind", decide (("InvalidKind" : Str) = nm)), ("kinds", decide (("InvalidKinds" : Str) = nm)), ("items", decide (("InvalidItems" : Str) = nm)), ("number", decide (("InvalidNumber" : Str) = nm)), ("effects", decide (("InvalidEffects" : Str) = nm)), ("counts", decide (("InvalidCounts" : Str) = nm)), ("long", decide (("TooLong" : Str) = nm)), ("many", decide (("TooMany" : Str) = nm)), ("impossible", decide (("Impossible" : Str) = nm)), ("same", decide (("SameEffect" : Str) = nm)), ("odd", decide (("InvalidPosition" : Str) = nm)), ("odd", decide (("InvalidRecord" : Str) = nm)), ("odd", decide (("InvalidCommand" : Str) = nm)), ("odd", decide (("InvalidText" : Str) = nm)), ("odd", decide (("Contradiction" : Str) = nm)), ("odd", decide (("NothingToUndo" : Str) = nm))]
def nameOf (nm : Str) : Str := (((nlist nm).filter (·.2)).map (·.1)).headD ""
theorem name_one : ∀ nm ∈ six ++ (oddA ++ oddB), ((nlist nm).filter (·.2)).map (·.1) = [nameOf nm] := by decide +kernel
theorem lit_is {K : PySem.W.Frag} {σ : L2.St} {H0 : Hp} {a D c : Addr} {d : Option Addr} {b : Bool} (e : σ[0]? = some (some (.ref a))) (hE : H0 a = some (ExD (.ref D) d a) ∧ DOk H0 d) (C : ExcC K D) (k : PySem.W.kitOne K (.ref D) (.ref c) = some b) : Lit σ H0 (tCB (rIsK K) (tCons (tVar 0) (tCons (tC (.ref c)) tNil))) (.bl b) := fun H Q s q =>
  ⟨_, e, a, D, d, _, _, b, rfl, s _ _ hE.1, hE.2.same s, C, (fun u r => r), k, q H _ (Same.refl _) (.bl b)⟩
theorem tp_at {H : Hp} {v : V} {l : List (Str × Bool)} (h : Rp H v (.lst (l.map tpD))) : ∃ a xs, v = .ref a ∧ H a = some (.lst xs) ∧ xs.length = l.length ∧ ∀ (i : Nat) (x : V), xs[i]? = some x → ∃ p t, l[i]? = some p ∧ x = .ref t ∧ H t = some (.tup [.str p.1, .bl p.2]) := by
  cases h with
  | lst e p =>
    refine ⟨_, _, rfl, e, by rw [Paired.len p, List.length_map], fun i x ex => ?_⟩
    obtain ⟨d, ed, hd⟩ := Paired.at p ex
    rw [List.getElem?_map] at ed
    cases hl : l[i]? with
    | none => rw [hl] at ed; cases ed
    | some q =>
      rw [hl] at ed
      have ed : tpD q = d := Option.some.inj ed
      subst ed
      cases hd with
      | tup e2 p2 =>
        cases p2 with
        | cons h1 p3 =>
          cases h1
          cases p3 with
          | cons h2 p4 =>
            cases h2
            cases p4
            exact ⟨q, _, rfl, rfl, e2⟩
section
variable {P : Program} {w : World} {K : PySem.W.Frag} {mg : Str → Option Value} {base : Heap}
/-! _law_kind_of: slots 0:e 1:names 2:found 3:name 4:is_one -/
abbrev s_law_kind_of : Stmt := topS 58
theorem sc_law_kind_of : FnScope ["e", "names", "found", "name", "is_one"] ["e"] (defScope s_law_kind_of) := ⟨rfl, rfl, rfl, by decide +kernel, rfl, by decide +kernel, by decide +kernel⟩
def sp_law_kind_of (K : PySem.W.Frag) (CA : Str → Addr) : Sp := fun vs H Q _ => ∃ (a : Addr) (d : Option Addr) (nm : Str), vs = [.ref a] ∧ (H a = some (ExD (.ref (CA nm)) d a) ∧ DOk H d) ∧ ClsF K CA nm ∧ nm ∈ six ++ (oddA ++ oddB) ∧ ∀ H', Same H H' → Q (.str (nameOf nm)) H'
theorem ok_law_kind_of {CA : Str → Addr} (D : Df K mg "_law_kind_of" s_law_kind_of) (T : Tx mg) (CM : Cmg mg CA) : Has P w K mg base 1 "_law_kind_of" ["e"] (sp_law_kind_of K CA) := by
  refine has_of D sc_law_kind_of (fun _ _ _ _ _ _ us hl => match us, hl with | [_], _ => rfl) (fun vs H Q E h => ?_) (fun f cdv A outer s₀ H vs Q E hr h => ?_)
  · obtain ⟨_, _, _, rfl, _⟩ := h
    rfl
  · obtain ⟨a, d, nm, rfl, hE, C, hn, q⟩ := h
    have ki : ∀ n, n ∈ six ++ (oddA ++ oddB) → PySem.W.kitOne K (.ref (CA nm)) (.ref (CA n)) = some (decide (n = nm)) := C.ki
    refine ⟨_, (pss_cons (ps_set (i := 1) sc_law_kind_of.nd rfl (by first | exact Or.inl rfl | exact Or.inr rfl) (pe_lst (pa_cons (pe_tup (pa_cons pe_str (pa_cons (pe_callB call_isK (by rfl) T.n_isinstance (by decide +kernel) (pa_cons (pv 0) (pa_cons (pe_glob (v := .ref (CA "InvalidSequence")) (by rfl) (CM.all "InvalidSequence" (by decide)) rfl) pa_nil))) pa_nil))) (pa_cons (pe_tup (pa_cons pe_str (pa_cons (pe_callB call_isK (by rfl) T.n_isinstance (by decide +kernel) (pa_cons (pv 0) (pa_cons (pe_glob (v := .ref (CA "InvalidState")) (by rfl) (CM.all "InvalidState" (by decide)) rfl) pa_nil))) pa_nil))) pa_nil))))
    (pss_cons (ps_set (i := 1) sc_law_kind_of.nd rfl (by first | exact Or.inl rfl | exact Or.inr rfl) (pe_op op_cat (pv 1) (pe_lst (pa_cons (pe_tup (pa_cons pe_str (pa_cons (pe_callB call_isK (by rfl) T.n_isinstance (by decide +kernel) (pa_cons (pv 0) (pa_cons (pe_glob (v := .ref (CA "InvalidKind")) (by rfl) (CM.all "InvalidKind" (by decide)) rfl) pa_nil))) pa_nil))) (pa_cons (pe_tup (pa_cons pe_str (pa_cons (pe_callB call_isK (by rfl) T.n_isinstance (by decide +kernel) (pa_cons (pv 0) (pa_cons (pe_glob (v := .ref (CA "InvalidKinds")) (by rfl) (CM.all "InvalidKinds" (by decide)) rfl) pa_nil))) pa_nil))) pa_nil)))))
    (pss_cons (ps_set (i := 1) sc_law_kind_of.nd rfl (by first | exact Or.inl rfl | exact Or.inr rfl) (pe_op op_cat (pv 1) (pe_lst (pa_cons (pe_tup (pa_cons pe_str (pa_cons (pe_callB call_isK (by rfl) T.n_isinstance (by decide +kernel) (pa_cons (pv 0) (pa_cons (pe_glob (v := .ref (CA "InvalidItems")) (by rfl) (CM.all "InvalidItems" (by decide)) rfl) pa_nil))) pa_nil))) (pa_cons (pe_tup (pa_cons pe_str (pa_cons (pe_callB call_isK (by rfl) T.n_isinstance (by decide +kernel) (pa_cons (pv 0) (pa_cons (pe_glob (v := .ref (CA "InvalidNumber")) (by rfl) (CM.all "InvalidNumber" (by decide)) rfl) pa_nil))) pa_nil))) pa_nil)))))
    (pss_cons (ps_set (i := 1) sc_law_kind_of.nd rfl (by first | exact Or.inl rfl | exact Or.inr rfl) (pe_op op_cat (pv 1) (pe_lst (pa_cons (pe_tup (pa_cons pe_str (pa_cons (pe_callB call_isK (by rfl) T.n_isinstance (by decide +kernel) (pa_cons (pv 0) (pa_cons (pe_glob (v := .ref (CA "InvalidEffects")) (by rfl) (CM.all "InvalidEffects" (by decide)) rfl) pa_nil))) pa_nil))) (pa_cons (pe_tup (pa_cons pe_str (pa_cons (pe_callB call_isK (by rfl) T.n_isinstance (by decide +kernel) (pa_cons (pv 0) (pa_cons (pe_glob (v := .ref (CA "InvalidCounts")) (by rfl) (CM.all "InvalidCounts" (by decide)) rfl) pa_nil))) pa_nil))) pa_nil)))))
    (pss_cons (ps_set (i := 1) sc_law_kind_of.nd rfl (by first | exact Or.inl rfl | exact Or.inr rfl) (pe_op op_cat (pv 1) (pe_lst (pa_cons (pe_tup (pa_cons pe_str (pa_cons (pe_callB call_isK (by rfl) T.n_isinstance (by decide +kernel) (pa_cons (pv 0) (pa_cons (pe_glob (v := .ref (CA "TooLong")) (by rfl) (CM.all "TooLong" (by decide)) rfl) pa_nil))) pa_nil))) (pa_cons (pe_tup (pa_cons pe_str (pa_cons (pe_callB call_isK (by rfl) T.n_isinstance (by decide +kernel) (pa_cons (pv 0) (pa_cons (pe_glob (v := .ref (CA "TooMany")) (by rfl) (CM.all "TooMany" (by decide)) rfl) pa_nil))) pa_nil))) pa_nil)))))
    (pss_cons (ps_set (i := 1) sc_law_kind_of.nd rfl (by first | exact Or.inl rfl | exact Or.inr rfl) (pe_op op_cat (pv 1) (pe_lst (pa_cons (pe_tup (pa_cons pe_str (pa_cons (pe_callB call_isK (by rfl) T.n_isinstance (by decide +kernel) (pa_cons (pv 0) (pa_cons (pe_glob (v := .ref (CA "Impossible")) (by rfl) (CM.all "Impossible" (by decide)) rfl) pa_nil))) pa_nil))) (pa_cons (pe_tup (pa_cons pe_str (pa_cons (pe_callB call_isK (by rfl) T.n_isinstance (by decide +kernel) (pa_cons (pv 0) (pa_cons (pe_glob (v := .ref (CA "SameEffect")) (by rfl) (CM.all "SameEffect" (by decide)) rfl) pa_nil))) pa_nil))) pa_nil)))))
    (pss_cons (ps_set (i := 1) sc_law_kind_of.nd rfl (by first | exact Or.inl rfl | exact Or.inr rfl) (pe_op op_cat (pv 1) (pe_lst (pa_cons (pe_tup (pa_cons pe_str (pa_cons (pe_callB call_isK (by rfl) T.n_isinstance (by decide +kernel) (pa_cons (pv 0) (pa_cons (pe_glob (v := .ref (CA "InvalidPosition")) (by rfl) (CM.all "InvalidPosition" (by decide)) rfl) pa_nil))) pa_nil))) (pa_cons (pe_tup (pa_cons pe_str (pa_cons (pe_callB call_isK (by rfl) T.n_isinstance (by decide +kernel) (pa_cons (pv 0) (pa_cons (pe_glob (v := .ref (CA "InvalidRecord")) (by rfl) (CM.all "InvalidRecord" (by decide)) rfl) pa_nil))) pa_nil))) pa_nil)))))
    (pss_cons (ps_set (i := 1) sc_law_kind_of.nd rfl (by first | exact Or.inl rfl | exact Or.inr rfl) (pe_op op_cat (pv 1) (pe_lst (pa_cons (pe_tup (pa_cons pe_str (pa_cons (pe_callB call_isK (by rfl) T.n_isinstance (by decide +kernel) (pa_cons (pv 0) (pa_cons (pe_glob (v := .ref (CA "InvalidCommand")) (by rfl) (CM.all "InvalidCommand" (by decide)) rfl) pa_nil))) pa_nil))) (pa_cons (pe_tup (pa_cons pe_str (pa_cons (pe_callB call_isK (by rfl) T.n_isinstance (by decide +kernel) (pa_cons (pv 0) (pa_cons (pe_glob (v := .ref (CA "InvalidText")) (by rfl) (CM.all "InvalidText" (by decide)) rfl) pa_nil))) pa_nil))) pa_nil)))))
    (pss_cons (ps_set (i := 1) sc_law_kind_of.nd rfl (by first | exact Or.inl rfl | exact Or.inr rfl) (pe_op op_cat (pv 1) (pe_lst (pa_cons (pe_tup (pa_cons pe_str (pa_cons (pe_callB call_isK (by rfl) T.n_isinstance (by decide +kernel) (pa_cons (pv 0) (pa_cons (pe_glob (v := .ref (CA "Contradiction")) (by rfl) (CM.all "Contradiction" (by decide)) rfl) pa_nil))) pa_nil))) (pa_cons (pe_tup (pa_cons pe_str (pa_cons (pe_callB call_isK (by rfl) T.n_isinstance (by decide +kernel) (pa_cons (pv 0) (pa_cons (pe_glob (v := .ref (CA "NothingToUndo")) (by rfl) (CM.all "NothingToUndo" (by decide)) rfl) pa_nil))) pa_nil))) pa_nil)))))
    (pss_cons (ps_setLc (i := 2) (own := [("name", 3), ("is_one", 4)]) rfl sc_law_kind_of.nd rfl rfl (sw_true rfl rfl rfl (by decide +kernel)) (pi_list (pv 1)) (blkOk_by (N := ["e", "names", "found", "name", "is_one"]) (sc := defScope s_law_kind_of) (by decide +kernel)) (fun _ _ _ _ _ => (pg_tupK (K := K) (n := 2) rfl rfl (pgs_cons (pg_name (i := 3) sc_law_kind_of.nd rfl (by first | exact Or.inl rfl | exact Or.inr rfl)) (pgs_cons (pg_name (i := 4) sc_law_kind_of.nd rfl (by first | exact Or.inl rfl | exact Or.inr rfl)) pgs_nil)))) (fun _ _ _ _ _ => pts_one (pt_val (pv 4))) (fun _ _ _ _ _ => (pv 3)))
    (pss_one (ps_ret (pe_ifExp (PW.pt (pw_and (pt_cmpR op_eq (pe_callB call_len_seq (by rfl) T.n_len (by decide +kernel) (pa_cons (pv 2) pa_nil)) pe_int (nomark _)) (pw_and1 (pt_val (pe_callB call_isK (by rfl) T.n_isinstance (by decide +kernel) (pa_cons (pv 0) (pa_cons (pe_bltn (v := .ty "ValueError") (by rfl) T.n_ValueError (by decide +kernel) rfl) pa_nil))))))) (pe_ix ix_list (pv 2) pe_int (fun _ _ => rfl)) pe_str))))))))))))), ?_⟩
    refine lit_set (d := .lst [.tup [.str "sequence", .bl (decide (("InvalidSequence" : Str) = nm))], .tup [.str "state", .bl (decide (("InvalidState" : Str) = nm))]]) (lit_lst (lits_cons (lit_tup (lits_cons lit_str (lits_cons (lit_is rfl hE C.ex (ki "InvalidSequence" (by decide +kernel))) lits_nil)) (Nat.le_of_ble_eq_true rfl)) (lits_cons (lit_tup (lits_cons lit_str (lits_cons (lit_is rfl hE C.ex (ki "InvalidState" (by decide +kernel))) lits_nil)) (Nat.le_of_ble_eq_true rfl)) lits_nil)) (Nat.le_of_ble_eq_true rfl)) (fun H1 v1 s1 r1 => ?_)
    have hE1 : H1 a = some (ExD (.ref (CA nm)) d a) ∧ DOk H1 d := ⟨s1 _ _ hE.1, hE.2.same s1⟩
    refine lit_set (d := .lst ([.tup [.str "sequence", .bl (decide (("InvalidSequence" : Str) = nm))], .tup [.str "state", .bl (decide (("InvalidState" : Str) = nm))]] ++ [.tup [.str "kind", .bl (decide (("InvalidKind" : Str) = nm))], .tup [.str "kinds", .bl (decide (("InvalidKinds" : Str) = nm))]])) (lit_cat (lit_var rfl r1) (lit_lst (lits_cons (lit_tup (lits_cons lit_str (lits_cons (lit_is rfl hE1 C.ex (ki "InvalidKind" (by decide +kernel))) lits_nil)) (Nat.le_of_ble_eq_true rfl)) (lits_cons (lit_tup (lits_cons lit_str (lits_cons (lit_is rfl hE1 C.ex (ki "InvalidKinds" (by decide +kernel))) lits_nil)) (Nat.le_of_ble_eq_true rfl)) lits_nil)) (Nat.le_of_ble_eq_true rfl)) (Nat.le_of_ble_eq_true rfl)) (fun H2 v2 s2 r2 => ?_)
    have hE2 : H2 a = some (ExD (.ref (CA nm)) d a) ∧ DOk H2 d := ⟨s2 _ _ hE1.1, hE1.2.same s2⟩
    refine lit_set (d := .lst (([.tup [.str "sequence", .bl (decide (("InvalidSequence" : Str) = nm))], .tup [.str "state", .bl (decide (("InvalidState" : Str) = nm))]] ++ [.tup [.str "kind", .bl (decide (("InvalidKind" : Str) = nm))], .tup [.str "kinds", .bl (decide (("InvalidKinds" : Str) = nm))]]) ++ [.tup [.str "items", .bl (decide (("InvalidItems" : Str) = nm))], .tup [.str "number", .bl (decide (("InvalidNumber" : Str) = nm))]])) (lit_cat (lit_var rfl r2) (lit_lst (lits_cons (lit_tup (lits_cons lit_str (lits_cons (lit_is rfl hE2 C.ex (ki "InvalidItems" (by decide +kernel))) lits_nil)) (Nat.le_of_ble_eq_true rfl)) (lits_cons (lit_tup (lits_cons lit_str (lits_cons (lit_is rfl hE2 C.ex (ki "InvalidNumber" (by decide +kernel))) lits_nil)) (Nat.le_of_ble_eq_true rfl)) lits_nil)) (Nat.le_of_ble_eq_true rfl)) (Nat.le_of_ble_eq_true rfl)) (fun H3 v3 s3 r3 => ?_)
    have hE3 : H3 a = some (ExD (.ref (CA nm)) d a) ∧ DOk H3 d := ⟨s3 _ _ hE2.1, hE2.2.same s3⟩
    refine lit_set (d := .lst ((([.tup [.str "sequence", .bl (decide (("InvalidSequence" : Str) = nm))], .tup [.str "state", .bl (decide (("InvalidState" : Str) = nm))]] ++ [.tup [.str "kind", .bl (decide (("InvalidKind" : Str) = nm))], .tup [.str "kinds", .bl (decide (("InvalidKinds" : Str) = nm))]]) ++ [.tup [.str "items", .bl (decide (("InvalidItems" : Str) = nm))], .tup [.str "number", .bl (decide (("InvalidNumber" : Str) = nm))]]) ++ [.tup [.str "effects", .bl (decide (("InvalidEffects" : Str) = nm))], .tup [.str "counts", .bl (decide (("InvalidCounts" : Str) = nm))]])) (lit_cat (lit_var rfl r3) (lit_lst (lits_cons (lit_tup (lits_cons lit_str (lits_cons (lit_is rfl hE3 C.ex (ki "InvalidEffects" (by decide +kernel))) lits_nil)) (Nat.le_of_ble_eq_true rfl)) (lits_cons (lit_tup (lits_cons lit_str (lits_cons (lit_is rfl hE3 C.ex (ki "InvalidCounts" (by decide +kernel))) lits_nil)) (Nat.le_of_ble_eq_true rfl)) lits_nil)) (Nat.le_of_ble_eq_true rfl)) (Nat.le_of_ble_eq_true rfl)) (fun H4 v4 s4 r4 => ?_)
    have hE4 : H4 a = some (ExD (.ref (CA nm)) d a) ∧ DOk H4 d := ⟨s4 _ _ hE3.1, hE3.2.same s4⟩
    refine lit_set (d := .lst (((([.tup [.str "sequence", .bl (decide (("InvalidSequence" : Str) = nm))], .tup [.str "state", .bl (decide (("InvalidState" : Str) = nm))]] ++ [.tup [.str "kind", .bl (decide (("InvalidKind" : Str) = nm))], .tup [.str "kinds", .bl (decide (("InvalidKinds" : Str) = nm))]]) ++ [.tup [.str "items", .bl (decide (("InvalidItems" : Str) = nm))], .tup [.str "number", .bl (decide (("InvalidNumber" : Str) = nm))]]) ++ [.tup [.str "effects", .bl (decide (("InvalidEffects" : Str) = nm))], .tup [.str "counts", .bl (decide (("InvalidCounts" : Str) = nm))]]) ++ [.tup [.str "long", .bl (decide (("TooLong" : Str) = nm))], .tup [.str "many", .bl (decide (("TooMany" : Str) = nm))]])) (lit_cat (lit_var rfl r4) (lit_lst (lits_cons (lit_tup (lits_cons lit_str (lits_cons (lit_is rfl hE4 C.ex (ki "TooLong" (by decide +kernel))) lits_nil)) (Nat.le_of_ble_eq_true rfl)) (lits_cons (lit_tup (lits_cons lit_str (lits_cons (lit_is rfl hE4 C.ex (ki "TooMany" (by decide +kernel))) lits_nil)) (Nat.le_of_ble_eq_true rfl)) lits_nil)) (Nat.le_of_ble_eq_true rfl)) (Nat.le_of_ble_eq_true rfl)) (fun H5 v5 s5 r5 => ?_)
    have hE5 : H5 a = some (ExD (.ref (CA nm)) d a) ∧ DOk H5 d := ⟨s5 _ _ hE4.1, hE4.2.same s5⟩
    refine lit_set (d := .lst ((((([.tup [.str "sequence", .bl (decide (("InvalidSequence" : Str) = nm))], .tup [.str "state", .bl (decide (("InvalidState" : Str) = nm))]] ++ [.tup [.str "kind", .bl (decide (("InvalidKind" : Str) = nm))], .tup [.str "kinds", .bl (decide (("InvalidKinds" : Str) = nm))]]) ++ [.tup [.str "items", .bl (decide (("InvalidItems" : Str) = nm))], .tup [.str "number", .bl (decide (("InvalidNumber" : Str) = nm))]]) ++ [.tup [.str "effects", .bl (decide (("InvalidEffects" : Str) = nm))], .tup [.str "counts", .bl (decide (("InvalidCounts" : Str) = nm))]]) ++ [.tup [.str "long", .bl (decide (("TooLong" : Str) = nm))], .tup [.str "many", .bl (decide (("TooMany" : Str) = nm))]]) ++ [.tup [.str "impossible", .bl (decide (("Impossible" : Str) = nm))], .tup [.str "same", .bl (decide (("SameEffect" : Str) = nm))]])) (lit_cat (lit_var rfl r5) (lit_lst (lits_cons (lit_tup (lits_cons lit_str (lits_cons (lit_is rfl hE5 C.ex (ki "Impossible" (by decide +kernel))) lits_nil)) (Nat.le_of_ble_eq_true rfl)) (lits_cons (lit_tup (lits_cons lit_str (lits_cons (lit_is rfl hE5 C.ex (ki "SameEffect" (by decide +kernel))) lits_nil)) (Nat.le_of_ble_eq_true rfl)) lits_nil)) (Nat.le_of_ble_eq_true rfl)) (Nat.le_of_ble_eq_true rfl)) (fun H6 v6 s6 r6 => ?_)
    have hE6 : H6 a = some (ExD (.ref (CA nm)) d a) ∧ DOk H6 d := ⟨s6 _ _ hE5.1, hE5.2.same s6⟩
    refine lit_set (d := .lst (((((([.tup [.str "sequence", .bl (decide (("InvalidSequence" : Str) = nm))], .tup [.str "state", .bl (decide (("InvalidState" : Str) = nm))]] ++ [.tup [.str "kind", .bl (decide (("InvalidKind" : Str) = nm))], .tup [.str "kinds", .bl (decide (("InvalidKinds" : Str) = nm))]]) ++ [.tup [.str "items", .bl (decide (("InvalidItems" : Str) = nm))], .tup [.str "number", .bl (decide (("InvalidNumber" : Str) = nm))]]) ++ [.tup [.str "effects", .bl (decide (("InvalidEffects" : Str) = nm))], .tup [.str "counts", .bl (decide (("InvalidCounts" : Str) = nm))]]) ++ [.tup [.str "long", .bl (decide (("TooLong" : Str) = nm))], .tup [.str "many", .bl (decide (("TooMany" : Str) = nm))]]) ++ [.tup [.str "impossible", .bl (decide (("Impossible" : Str) = nm))], .tup [.str "same", .bl (decide (("SameEffect" : Str) = nm))]]) ++ [.tup [.str "odd", .bl (decide (("InvalidPosition" : Str) = nm))], .tup [.str "odd", .bl (decide (("InvalidRecord" : Str) = nm))]])) (lit_cat (lit_var rfl r6) (lit_lst (lits_cons (lit_tup (lits_cons lit_str (lits_cons (lit_is rfl hE6 C.ex (ki "InvalidPosition" (by decide +kernel))) lits_nil)) (Nat.le_of_ble_eq_true rfl)) (lits_cons (lit_tup (lits_cons lit_str (lits_cons (lit_is rfl hE6 C.ex (ki "InvalidRecord" (by decide +kernel))) lits_nil)) (Nat.le_of_ble_eq_true rfl)) lits_nil)) (Nat.le_of_ble_eq_true rfl)) (Nat.le_of_ble_eq_true rfl)) (fun H7 v7 s7 r7 => ?_)
    have hE7 : H7 a = some (ExD (.ref (CA nm)) d a) ∧ DOk H7 d := ⟨s7 _ _ hE6.1, hE6.2.same s7⟩
    refine lit_set (d := .lst ((((((([.tup [.str "sequence", .bl (decide (("InvalidSequence" : Str) = nm))], .tup [.str "state", .bl (decide (("InvalidState" : Str) = nm))]] ++ [.tup [.str "kind", .bl (decide (("InvalidKind" : Str) = nm))], .tup [.str "kinds", .bl (decide (("InvalidKinds" : Str) = nm))]]) ++ [.tup [.str "items", .bl (decide (("InvalidItems" : Str) = nm))], .tup [.str "number", .bl (decide (("InvalidNumber" : Str) = nm))]]) ++ [.tup [.str "effects", .bl (decide (("InvalidEffects" : Str) = nm))], .tup [.str "counts", .bl (decide (("InvalidCounts" : Str) = nm))]]) ++ [.tup [.str "long", .bl (decide (("TooLong" : Str) = nm))], .tup [.str "many", .bl (decide (("TooMany" : Str) = nm))]]) ++ [.tup [.str "impossible", .bl (decide (("Impossible" : Str) = nm))], .tup [.str "same", .bl (decide (("SameEffect" : Str) = nm))]]) ++ [.tup [.str "odd", .bl (decide (("InvalidPosition" : Str) = nm))], .tup [.str "odd", .bl (decide (("InvalidRecord" : Str) = nm))]]) ++ [.tup [.str "odd", .bl (decide (("InvalidCommand" : Str) = nm))], .tup [.str "odd", .bl (decide (("InvalidText" : Str) = nm))]])) (lit_cat (lit_var rfl r7) (lit_lst (lits_cons (lit_tup (lits_cons lit_str (lits_cons (lit_is rfl hE7 C.ex (ki "InvalidCommand" (by decide +kernel))) lits_nil)) (Nat.le_of_ble_eq_true rfl)) (lits_cons (lit_tup (lits_cons lit_str (lits_cons (lit_is rfl hE7 C.ex (ki "InvalidText" (by decide +kernel))) lits_nil)) (Nat.le_of_ble_eq_true rfl)) lits_nil)) (Nat.le_of_ble_eq_true rfl)) (Nat.le_of_ble_eq_true rfl)) (fun H8 v8 s8 r8 => ?_)
    have hE8 : H8 a = some (ExD (.ref (CA nm)) d a) ∧ DOk H8 d := ⟨s8 _ _ hE7.1, hE7.2.same s8⟩
    refine lit_set (d := .lst (((((((([.tup [.str "sequence", .bl (decide (("InvalidSequence" : Str) = nm))], .tup [.str "state", .bl (decide (("InvalidState" : Str) = nm))]] ++ [.tup [.str "kind", .bl (decide (("InvalidKind" : Str) = nm))], .tup [.str "kinds", .bl (decide (("InvalidKinds" : Str) = nm))]]) ++ [.tup [.str "items", .bl (decide (("InvalidItems" : Str) = nm))], .tup [.str "number", .bl (decide (("InvalidNumber" : Str) = nm))]]) ++ [.tup [.str "effects", .bl (decide (("InvalidEffects" : Str) = nm))], .tup [.str "counts", .bl (decide (("InvalidCounts" : Str) = nm))]]) ++ [.tup [.str "long", .bl (decide (("TooLong" : Str) = nm))], .tup [.str "many", .bl (decide (("TooMany" : Str) = nm))]]) ++ [.tup [.str "impossible", .bl (decide (("Impossible" : Str) = nm))], .tup [.str "same", .bl (decide (("SameEffect" : Str) = nm))]]) ++ [.tup [.str "odd", .bl (decide (("InvalidPosition" : Str) = nm))], .tup [.str "odd", .bl (decide (("InvalidRecord" : Str) = nm))]]) ++ [.tup [.str "odd", .bl (decide (("InvalidCommand" : Str) = nm))], .tup [.str "odd", .bl (decide (("InvalidText" : Str) = nm))]]) ++ [.tup [.str "odd", .bl (decide (("Contradiction" : Str) = nm))], .tup [.str "odd", .bl (decide (("NothingToUndo" : Str) = nm))]])) (lit_cat (lit_var rfl r8) (lit_lst (lits_cons (lit_tup (lits_cons lit_str (lits_cons (lit_is rfl hE8 C.ex (ki "Contradiction" (by decide +kernel))) lits_nil)) (Nat.le_of_ble_eq_true rfl)) (lits_cons (lit_tup (lits_cons lit_str (lits_cons (lit_is rfl hE8 C.ex (ki "NothingToUndo" (by decide +kernel))) lits_nil)) (Nat.le_of_ble_eq_true rfl)) lits_nil)) (Nat.le_of_ble_eq_true rfl)) (Nat.le_of_ble_eq_true rfl)) (fun H9 v9 s9 r9 => ?_)
    have hE9 : H9 a = some (ExD (.ref (CA nm)) d a) ∧ DOk H9 d := ⟨s9 _ _ hE8.1, hE8.2.same s9⟩
    have r10 : Rp H9 v9 (.lst ((nlist nm).map tpD)) := r9
    have sA := s1.trans (s2.trans (s3.trans (s4.trans (s5.trans (s6.trans (s7.trans (s8.trans s9)))))))
    clear r1 r2 r3 r4 r5 r6 r7 r8 r9
    obtain ⟨p, xs, rfl, hx, lx, at_⟩ := tp_at r10
    have one := name_one nm hn
    have l18 : (nlist nm).length = 18 := rfl
    generalize nlist nm = L at *
    refine ⟨_, rfl, p, rfl, ⟨xs, .of hx⟩, fun F nF => lc_list (K := K) (a := p) (xs := xs) (fun i H' => Same H9 H' ∧ H' F = some (.lst ((((L.take i).filter (·.2)).map (·.1)).map V.str))) ⟨same_upd nF, upd_same⟩ (fun i H' _ p => .of (p.1 _ _ hx)) (fun i x H10 ex hP => ?_) (fun H10 hP => ?_)⟩
    · obtain ⟨sm, hF⟩ := hP
      obtain ⟨pp, t, epp, rfl, ht⟩ := at_ i x ex
      have hi : i < xs.length := (List.getElem?_eq_some_iff.mp ex).1
      refine ⟨t, _, rfl, .of (sm _ _ ht), rfl, _, _, rfl, _, _, rfl, rfl, rfl, _, rfl, _, rfl, ite2 (fun hb => ?_) (fun hb => ?_)⟩
      · refine ⟨_, rfl, _, hF, ?_, same_grow nF sm, ?_⟩
        · have h1 := List.length_filter_le (fun q : Str × Bool => q.2) (L.take i)
          rw [List.length_take] at h1
          rw [List.length_map, List.length_map]
          exact small (by omega)
        · rw [upd_same, take_snoc epp, List.filter_append, List.filter_cons_of_pos (p := fun q : Str × Bool => q.2) hb, List.map_append, List.map_append]
          rfl
      · refine ⟨sm, ?_⟩
        rw [take_snoc epp, List.filter_append, List.filter_cons_of_neg (p := fun q : Str × Bool => q.2) hb, List.filter_nil, List.append_nil]
        exact hF
    obtain ⟨s10, hF⟩ := hP
    rw [List.take_of_length_le (by omega), one] at hF
    have hF : H10 F = some (.lst [.str (nameOf nm)]) := hF
    refine ⟨_, rfl, F, _, rfl, .inl (.of hF), rfl, _, rfl, iteP rfl ⟨_, rfl, a, _, d, _, _, _, rfl, s10 _ _ hE9.1, hE9.2.same s10, C.ex, (fun u r => r), C.kv, _, rfl, iteT ?_⟩⟩
    exact ⟨_, rfl, F, _, 0, _, rfl, rfl, .of hF, rfl, q _ (sA.trans s10)⟩
end
end UP

set_option Elab.async false
set_option linter.all false
set_option maxRecDepth 100000
set_option maxHeartbeats 4000000
namespace UP
open PySem PySem.Spec PyProof.Rows L2
/-! ### a heap without one address -/
theorem delH_sub {H : Hp} {a : Addr} : Same (delH H a) H := fun b o e => by
  by_cases h : b = a
  · rw [h, delH_same] at e
    cases e
  · rw [delH_ne h] at e
    exact e
theorem delH_mono {H H' : Hp} {a : Addr} (s : Same H H') : Same (delH H a) (delH H' a) := fun b o e => by
  by_cases h : b = a
  · rw [h, delH_same] at e
    cases e
  · rw [delH_ne h] at e ⊢
    exact s _ _ e
theorem delH_upd {H : Hp} {a : Addr} {o : HO} : delH (upd H a o) a = delH H a := by
  funext b
  by_cases h : b = a
  · rw [h, delH_same, delH_same]
  · rw [delH_ne h, delH_ne h, upd_ne h]
theorem newH_del {H0 H : Hp} {a : Addr} {o : HO} (h : H0 a = some o) : Same (newH H0 H) (delH H a) := fun b u e => by
  by_cases hb : b = a
  · rw [hb, newH_old h] at e
    cases e
  · rw [delH_ne hb]
    exact newH_sub _ _ e
theorem newH_butR {H0 H H' : Hp} {p : Addr} (z : Reel H0 p) (b : RB p H H') : Same (newH H0 H) (newH H0 H') := fun x o e => by
  cases h : H0 x with
  | none =>
    rw [newH_at h] at e ⊢
    refine b.but _ _ (fun q => ?_) e
    rw [q] at h
    exact absurd rfl (z.ne h)
  | some o' =>
    rw [newH_old h] at e
    cases e
theorem delH_RB {H H' : Hp} {p : Addr} (b : RB p H H') : Same (delH H p) (delH H' p) := fun x o e => by
  by_cases h : x = p
  · rw [h, delH_same] at e
    cases e
  · rw [delH_ne h] at e ⊢
    exact b.but _ _ h e
theorem Reel.at {H : Hp} {p : Addr} (z : Reel H p) : ∃ o, H p = some o := by
  obtain ⟨_, _, _, _, _, _, h, _⟩ := z
  exact ⟨_, h⟩
/-! ### the menus -/
theorem strs_rp {H : Hp} {f : Nat → Str} : ∀ (l : List Nat), Paired (Rp H) (l.map fun c => V.str (f c)) (l.map fun c => Dat.str (f c))
  | [] => .nil
  | c :: t => .cons (.str _) (strs_rp t)
def bad0 : List Dat := [.non, .int 0, .str "a", .dic, .lst [.non], .lst [.tup [.str "a", .int 0]], .lst [.tup [.str "A", .int 1]], .lst [.tup [.str "a", .int 1], .tup [.str "a", .int 1]], .lst [.tup [.str "a"]], .lst [.tup [.str "a", .int 1, .int 1]]] ++ [.lst [.tup [.str "a", .bl true]], .lst [.tup [.str "a", .int ((10 : Int) ^ ((30 : Int).toNat) + 1)]], .lst [.tup [.str "abcdefghi", .int 1]], .tup [.str "a", .int 1], .lst [.tup [.str "a", .str "1"]], .lst [.lst [.str "", .int 1]]]
def bad1 : List Dat := [.int 0, .bl true, .str "a", .tup [], .lst [], .tup [.str "a"], .tup [.str "a", .int 0], .tup [.str "a", .int (-1)], .tup [.str "A", .int 1], .tup [.str "a", .bl true], .tup [.str "a", .int 1, .int 1], .tup [.int 1, .str "a"], .dic]
def bad2 : List Dat := [.non, .int 0, .str "", .str "A", .str "abcdefghi", .lst [.str "a"], .tup [.str "a"], .str "a b", .bl true, .str "a1"]
def kl (z : Str) : List Dat := z.cps.toList.map fun c => .str (("k" : Str) ++ ⟨#[c]⟩)
def bad3 : List Dat := [.non, .int 0, .str "a", .lst [], .lst [.str "b", .str "a"], .lst [.str "a", .str "a"], .lst [.str "A"], .lst [.int 1], .lst [.non], .dic, .lst [.str "a", .str ""]] ++ [.str "abcdefghijklm", .lst (kl "abcdefghijklm")]
def badM (k : Int) : List Dat := if k = 0 then bad0 else if k = 1 then bad1 else if k = 2 then bad2 else bad3
section
variable {P : Program} {w : World} {K : PySem.W.Frag} {mg : Str → Option Value} {base : Heap}
/-! _law_bad: slots 0:reel 1:which 2:some 3:letter -/
abbrev s_law_bad : Stmt := topS 59
theorem sc_law_bad : FnScope ["reel", "which", "some", "letter"] ["reel", "which"] (defScope s_law_bad) := ⟨rfl, rfl, rfl, by decide +kernel, rfl, by decide +kernel, by decide +kernel⟩
def sp_law_bad : Sp := fun vs H Q _ => ∃ (p : Addr) (k : Int), vs = [.ref p, .int k] ∧ Reel H p ∧ 0 ≤ k ∧ k ≤ 3 ∧ ∀ H' v d, RB p H H' → Reel H' p → d ∈ badM k → Rp (delH H' p) v d → Q v H'
theorem ok_law_bad (D : Df K mg "_law_bad" s_law_bad) (T : Tx mg) (G_law_draw : Has P w K mg base 1 "_law_draw" ["reel", "many"] sp_law_draw) : Has P w K mg base 2 "_law_bad" ["reel", "which"] sp_law_bad := by
  refine has_of D sc_law_bad (fun _ _ _ _ _ _ us hl => match us, hl with | [_, _], _ => rfl) (fun vs H Q E h => ?_) (fun f cdv A outer s₀ H vs Q E hr h => ?_)
  · obtain ⟨_, _, rfl, _⟩ := h
    rfl
  · obtain ⟨p, k, rfl, hz, k0, k3, q⟩ := h
    obtain ⟨op, hp⟩ := hz.at
    refine ⟨_, (pss_cons (ps_if (pt_cmpR op_eq (pv 1) pe_int (nomark _)) (pss_cons (ps_set (i := 2) sc_law_bad.nd rfl (by first | exact Or.inl rfl | exact Or.inr rfl) (pe_lst (pa_cons pe_non (pa_cons pe_int (pa_cons pe_str (pa_cons pe_dnewK (pa_cons (pe_lst (pa_cons pe_non pa_nil)) (pa_cons (pe_lst (pa_cons (pe_tup (pa_cons pe_str (pa_cons pe_int pa_nil))) pa_nil)) (pa_cons (pe_lst (pa_cons (pe_tup (pa_cons pe_str (pa_cons pe_int pa_nil))) pa_nil)) (pa_cons (pe_lst (pa_cons (pe_tup (pa_cons pe_str (pa_cons pe_int pa_nil))) (pa_cons (pe_tup (pa_cons pe_str (pa_cons pe_int pa_nil))) pa_nil))) (pa_cons (pe_lst (pa_cons (pe_tup (pa_cons pe_str pa_nil)) pa_nil)) (pa_cons (pe_lst (pa_cons (pe_tup (pa_cons pe_str (pa_cons pe_int (pa_cons pe_int pa_nil)))) pa_nil)) pa_nil))))))))))))
    (pss_cons (ps_set (i := 2) sc_law_bad.nd rfl (by first | exact Or.inl rfl | exact Or.inr rfl) (pe_op op_cat (pv 2) (pe_lst (pa_cons (pe_lst (pa_cons (pe_tup (pa_cons pe_str (pa_cons pe_bl pa_nil))) pa_nil)) (pa_cons (pe_lst (pa_cons (pe_tup (pa_cons pe_str (pa_cons (pe_op op_add (pe_op op_pow pe_int pe_int) pe_int) pa_nil))) pa_nil)) (pa_cons (pe_lst (pa_cons (pe_tup (pa_cons pe_str (pa_cons pe_int pa_nil))) pa_nil)) (pa_cons (pe_tup (pa_cons pe_str (pa_cons pe_int pa_nil))) (pa_cons (pe_lst (pa_cons (pe_tup (pa_cons pe_str (pa_cons pe_str pa_nil))) pa_nil)) (pa_cons (pe_lst (pa_cons (pe_lst (pa_cons pe_str (pa_cons pe_int pa_nil))) pa_nil)) pa_nil)))))))))
    (pss_one (ps_ret (pe_ix ix_list (pv 2) (pe_callH G_law_draw (hr.mono (by omega)) (by rfl) (pa_cons (pv 0) (pa_cons pe_int pa_nil))) (fun _ _ => rfl)))))) pss_nil)
    (pss_cons (ps_if (pt_cmpR op_eq (pv 1) pe_int (nomark _)) (pss_cons (ps_set (i := 2) sc_law_bad.nd rfl (by first | exact Or.inl rfl | exact Or.inr rfl) (pe_lst (pa_cons pe_int (pa_cons pe_bl (pa_cons pe_str (pa_cons (pe_tup pa_nil) (pa_cons (pe_lst pa_nil) (pa_cons (pe_tup (pa_cons pe_str pa_nil)) (pa_cons (pe_tup (pa_cons pe_str (pa_cons pe_int pa_nil))) (pa_cons (pe_tup (pa_cons pe_str (pa_cons (pe_un un_neg pe_int) pa_nil))) (pa_cons (pe_tup (pa_cons pe_str (pa_cons pe_int pa_nil))) (pa_cons (pe_tup (pa_cons pe_str (pa_cons pe_bl pa_nil))) (pa_cons (pe_tup (pa_cons pe_str (pa_cons pe_int (pa_cons pe_int pa_nil)))) (pa_cons (pe_tup (pa_cons pe_int (pa_cons pe_str pa_nil))) (pa_cons pe_dnewK pa_nil)))))))))))))))
    (pss_one (ps_ret (pe_ix ix_list (pv 2) (pe_callH G_law_draw (hr.mono (by omega)) (by rfl) (pa_cons (pv 0) (pa_cons pe_int pa_nil))) (fun _ _ => rfl))))) pss_nil)
    (pss_cons (ps_if (pt_cmpR op_eq (pv 1) pe_int (nomark _)) (pss_one (ps_ret (pe_ix ix_list (pe_lst (pa_cons pe_non (pa_cons pe_int (pa_cons pe_str (pa_cons pe_str (pa_cons pe_str (pa_cons (pe_lst (pa_cons pe_str pa_nil)) (pa_cons (pe_tup (pa_cons pe_str pa_nil)) (pa_cons pe_str (pa_cons pe_bl (pa_cons pe_str pa_nil))))))))))) (pe_callH G_law_draw (hr.mono (by omega)) (by rfl) (pa_cons (pv 0) (pa_cons pe_int pa_nil))) (fun _ _ => rfl)))) pss_nil)
    (pss_cons (ps_set (i := 2) sc_law_bad.nd rfl (by first | exact Or.inl rfl | exact Or.inr rfl) (pe_lst (pa_cons pe_non (pa_cons pe_int (pa_cons pe_str (pa_cons (pe_lst pa_nil) (pa_cons (pe_lst (pa_cons pe_str (pa_cons pe_str pa_nil))) (pa_cons (pe_lst (pa_cons pe_str (pa_cons pe_str pa_nil))) (pa_cons (pe_lst (pa_cons pe_str pa_nil)) (pa_cons (pe_lst (pa_cons pe_int pa_nil)) (pa_cons (pe_lst (pa_cons pe_non pa_nil)) (pa_cons pe_dnewK (pa_cons (pe_lst (pa_cons pe_str (pa_cons pe_str pa_nil))) pa_nil)))))))))))))
    (pss_one (ps_ret (pe_ix ix_list (pe_op op_cat (pv 2) (pe_lst (pa_cons pe_str (pa_cons (pe_lc (own := [("letter", 3)]) rfl sc_law_bad.nd (pi_str pe_str) (blkOk_by (N := ["reel", "which", "some", "letter"]) (sc := defScope s_law_bad) (by decide +kernel)) (fun _ _ _ _ _ => (pg_name (i := 3) sc_law_bad.nd rfl (by first | exact Or.inl rfl | exact Or.inr rfl))) (fun _ _ _ _ _ => pts_nil) (fun _ _ _ _ _ => (pe_op op_add_str pe_str (pv 3)))) pa_nil)))) (pe_callH G_law_draw (hr.mono (by omega)) (by rfl) (pa_cons (pv 0) (pa_cons pe_int pa_nil))) (fun _ _ => rfl)))))))), ?_⟩
    rcases (show k = 0 ∨ k = 1 ∨ k = 2 ∨ k = 3 by omega) with rfl | rfl | rfl | rfl
    · refine ⟨_, rfl, rfl, _, rfl, iteP rfl ?_⟩
      refine litF_set (Same.refl _) (d := .lst [.non, .int 0, .str "a", .dic, .lst [.non], .lst [.tup [.str "a", .int 0]], .lst [.tup [.str "A", .int 1]], .lst [.tup [.str "a", .int 1], .tup [.str "a", .int 1]], .lst [.tup [.str "a"]], .lst [.tup [.str "a", .int 1, .int 1]]]) (litF_lst (litsF_cons litF_non (litsF_cons litF_int (litsF_cons litF_str (litsF_cons litF_dic (litsF_cons (litF_lst (litsF_cons litF_non litsF_nil) (Nat.le_of_ble_eq_true rfl)) (litsF_cons (litF_lst (litsF_cons (litF_tup (litsF_cons litF_str (litsF_cons litF_int litsF_nil)) (Nat.le_of_ble_eq_true rfl)) litsF_nil) (Nat.le_of_ble_eq_true rfl)) (litsF_cons (litF_lst (litsF_cons (litF_tup (litsF_cons litF_str (litsF_cons litF_int litsF_nil)) (Nat.le_of_ble_eq_true rfl)) litsF_nil) (Nat.le_of_ble_eq_true rfl)) (litsF_cons (litF_lst (litsF_cons (litF_tup (litsF_cons litF_str (litsF_cons litF_int litsF_nil)) (Nat.le_of_ble_eq_true rfl)) (litsF_cons (litF_tup (litsF_cons litF_str (litsF_cons litF_int litsF_nil)) (Nat.le_of_ble_eq_true rfl)) litsF_nil)) (Nat.le_of_ble_eq_true rfl)) (litsF_cons (litF_lst (litsF_cons (litF_tup (litsF_cons litF_str litsF_nil) (Nat.le_of_ble_eq_true rfl)) litsF_nil) (Nat.le_of_ble_eq_true rfl)) (litsF_cons (litF_lst (litsF_cons (litF_tup (litsF_cons litF_str (litsF_cons litF_int (litsF_cons litF_int litsF_nil))) (Nat.le_of_ble_eq_true rfl)) litsF_nil) (Nat.le_of_ble_eq_true rfl)) litsF_nil)))))))))) (Nat.le_of_ble_eq_true rfl)) (fun H1 v1 s1 r1 => ?_)
      refine litF_set s1 (d := .lst bad0) (litF_cat (litF_var rfl r1) (litF_lst (litsF_cons (litF_lst (litsF_cons (litF_tup (litsF_cons litF_str (litsF_cons litF_bl litsF_nil)) (Nat.le_of_ble_eq_true rfl)) litsF_nil) (Nat.le_of_ble_eq_true rfl)) (litsF_cons (litF_lst (litsF_cons (litF_tup (litsF_cons litF_str (litsF_cons (litF_val (v := .int ((10 : Int) ^ ((30 : Int).toNat) + 1)) (fun H Q q => ⟨_, _, rfl, rfl, ⟨by decide, by decide, by decide⟩, _, _, rfl, rfl, q⟩) (fun H => .int _)) litsF_nil)) (Nat.le_of_ble_eq_true rfl)) litsF_nil) (Nat.le_of_ble_eq_true rfl)) (litsF_cons (litF_lst (litsF_cons (litF_tup (litsF_cons litF_str (litsF_cons litF_int litsF_nil)) (Nat.le_of_ble_eq_true rfl)) litsF_nil) (Nat.le_of_ble_eq_true rfl)) (litsF_cons (litF_tup (litsF_cons litF_str (litsF_cons litF_int litsF_nil)) (Nat.le_of_ble_eq_true rfl)) (litsF_cons (litF_lst (litsF_cons (litF_tup (litsF_cons litF_str (litsF_cons litF_str litsF_nil)) (Nat.le_of_ble_eq_true rfl)) litsF_nil) (Nat.le_of_ble_eq_true rfl)) (litsF_cons (litF_lst (litsF_cons (litF_lst (litsF_cons litF_str (litsF_cons litF_int litsF_nil)) (Nat.le_of_ble_eq_true rfl)) litsF_nil) (Nat.le_of_ble_eq_true rfl)) litsF_nil)))))) (Nat.le_of_ble_eq_true rfl)) (Nat.le_of_ble_eq_true rfl)) (fun H2 v2 s2 r2 => ?_)
      refine ⟨_, rfl, _, rfl, p, 16, rfl, (hz.same s1).same s2, by decide, by decide, fun H3 r b3 z3 r0 r1' => ?_⟩
      have ix : r.toNat < bad0.length := by
        show r.toNat < 16
        omega
      obtain ⟨a, xs, x, rfl, hxs, ex, hx⟩ := rp_at (r2.same (newH_butR hz b3)) r0 ix
      exact ⟨a, xs, r, x, rfl, rfl, .of (newH_sub _ _ hxs), ex, q H3 x _ ((RB.of (s1.trans s2)).trans b3) z3 (List.getElem_mem ix) (hx.same (newH_del hp))⟩
    · refine ⟨_, rfl, rfl, _, rfl, iteN rfl ⟨_, rfl, rfl, _, rfl, iteP rfl ?_⟩⟩
      refine litF_set (Same.refl _) (d := .lst bad1) (litF_lst (litsF_cons litF_int (litsF_cons litF_bl (litsF_cons litF_str (litsF_cons (litF_tup litsF_nil (Nat.le_of_ble_eq_true rfl)) (litsF_cons (litF_lst litsF_nil (Nat.le_of_ble_eq_true rfl)) (litsF_cons (litF_tup (litsF_cons litF_str litsF_nil) (Nat.le_of_ble_eq_true rfl)) (litsF_cons (litF_tup (litsF_cons litF_str (litsF_cons litF_int litsF_nil)) (Nat.le_of_ble_eq_true rfl)) (litsF_cons (litF_tup (litsF_cons litF_str (litsF_cons (litF_val (v := .int (-1)) (fun H Q q => ⟨1, rfl, q⟩) (fun H => .int _)) litsF_nil)) (Nat.le_of_ble_eq_true rfl)) (litsF_cons (litF_tup (litsF_cons litF_str (litsF_cons litF_int litsF_nil)) (Nat.le_of_ble_eq_true rfl)) (litsF_cons (litF_tup (litsF_cons litF_str (litsF_cons litF_bl litsF_nil)) (Nat.le_of_ble_eq_true rfl)) (litsF_cons (litF_tup (litsF_cons litF_str (litsF_cons litF_int (litsF_cons litF_int litsF_nil))) (Nat.le_of_ble_eq_true rfl)) (litsF_cons (litF_tup (litsF_cons litF_int (litsF_cons litF_str litsF_nil)) (Nat.le_of_ble_eq_true rfl)) (litsF_cons litF_dic litsF_nil))))))))))))) (Nat.le_of_ble_eq_true rfl)) (fun H2 v2 s2 r2 => ?_)
      refine ⟨_, rfl, _, rfl, p, 13, rfl, hz.same s2, by decide, by decide, fun H3 r b3 z3 r0 r1' => ?_⟩
      have ix : r.toNat < bad1.length := by
        show r.toNat < 13
        omega
      obtain ⟨a, xs, x, rfl, hxs, ex, hx⟩ := rp_at (r2.same (newH_butR hz b3)) r0 ix
      exact ⟨a, xs, r, x, rfl, rfl, .of (newH_sub _ _ hxs), ex, q H3 x _ ((RB.of s2).trans b3) z3 (List.getElem_mem ix) (hx.same (newH_del hp))⟩
    · refine ⟨_, rfl, rfl, _, rfl, iteN rfl ⟨_, rfl, rfl, _, rfl, iteN rfl ⟨_, rfl, rfl, _, rfl, iteP rfl ?_⟩⟩⟩
      refine litF_retIx (Same.refl _) (ds := bad2) (litF_lst (litsF_cons litF_non (litsF_cons litF_int (litsF_cons litF_str (litsF_cons litF_str (litsF_cons litF_str (litsF_cons (litF_lst (litsF_cons litF_str litsF_nil) (Nat.le_of_ble_eq_true rfl)) (litsF_cons (litF_tup (litsF_cons litF_str litsF_nil) (Nat.le_of_ble_eq_true rfl)) (litsF_cons litF_str (litsF_cons litF_bl (litsF_cons litF_str litsF_nil)))))))))) (Nat.le_of_ble_eq_true rfl)) (fun H2 v2 s2 r2 => ?_)
      refine ⟨_, rfl, p, 10, rfl, hz.same s2, by decide, by decide, fun H3 r b3 z3 r0 r1' => ?_⟩
      have ix : r.toNat < bad2.length := by
        show r.toNat < 10
        omega
      obtain ⟨a, xs, x, rfl, hxs, ex, hx⟩ := rp_at (r2.same (newH_butR hz b3)) r0 ix
      exact ⟨a, xs, r, x, rfl, rfl, .of (newH_sub _ _ hxs), ex, q H3 x _ ((RB.of s2).trans b3) z3 (List.getElem_mem ix) (hx.same (newH_del hp))⟩
    · refine ⟨_, rfl, rfl, _, rfl, iteN rfl ⟨_, rfl, rfl, _, rfl, iteN rfl ⟨_, rfl, rfl, _, rfl, iteN rfl ?_⟩⟩⟩
      refine litF_set (Same.refl _) (d := .lst [.non, .int 0, .str "a", .lst [], .lst [.str "b", .str "a"], .lst [.str "a", .str "a"], .lst [.str "A"], .lst [.int 1], .lst [.non], .dic, .lst [.str "a", .str ""]]) (litF_lst (litsF_cons litF_non (litsF_cons litF_int (litsF_cons litF_str (litsF_cons (litF_lst litsF_nil (Nat.le_of_ble_eq_true rfl)) (litsF_cons (litF_lst (litsF_cons litF_str (litsF_cons litF_str litsF_nil)) (Nat.le_of_ble_eq_true rfl)) (litsF_cons (litF_lst (litsF_cons litF_str (litsF_cons litF_str litsF_nil)) (Nat.le_of_ble_eq_true rfl)) (litsF_cons (litF_lst (litsF_cons litF_str litsF_nil) (Nat.le_of_ble_eq_true rfl)) (litsF_cons (litF_lst (litsF_cons litF_int litsF_nil) (Nat.le_of_ble_eq_true rfl)) (litsF_cons (litF_lst (litsF_cons litF_non litsF_nil) (Nat.le_of_ble_eq_true rfl)) (litsF_cons litF_dic (litsF_cons (litF_lst (litsF_cons litF_str (litsF_cons litF_str litsF_nil)) (Nat.le_of_ble_eq_true rfl)) litsF_nil))))))))))) (Nat.le_of_ble_eq_true rfl)) (fun H1 v1 s1 r1 => ?_)
      refine litF_retIx s1 (ds := bad3) (litF_cat (litF_var rfl r1) (litF_lst (litsF_cons litF_str (litsF_cons (d := .lst (kl "abcdefghijklm")) (fun H Q s w q => by
        refine ⟨_, rfl, fun L nL => lc_gen (n := ("abcdefghijklm" : Str).cps.size) (fun i H' => Same H H' ∧ H' L = some (.lst ((("abcdefghijklm" : Str).cps.toList.take i).map fun c => V.str (("k" : Str) ++ ⟨#[c]⟩)))) ⟨same_upd nL, upd_same⟩ (fun i H' hi _ => hi) (fun H' _ => Nat.le_refl _) (fun i x H1 H2 hi p y => ?_) (fun H' p => ?_)⟩
        · obtain ⟨rfl, c, ec, rfl⟩ := y
          obtain ⟨sm, hL⟩ := p
          have ec' : ("abcdefghijklm" : Str).cps.toList[i]? = some c := by
            rw [Array.getElem?_toList]
            exact ec
          have hi : i < 13 := hi
          refine ⟨rfl, yesT ⟨_, rfl, _, _, rfl, rfl, smallE (by show 1 + 1 ≤ _; decide), _, hL, ?_, same_grow nL sm, ?_⟩⟩
          · rw [List.length_map, List.length_take]
            exact small (by omega)
          · rw [upd_same, take_snoc ec', List.map_append]
            rfl
        · obtain ⟨sm, hL⟩ := p
          rw [List.take_of_length_le (by rw [Array.length_toList]; exact Nat.le_refl _)] at hL
          refine q H' _ sm (.lst (by rw [newH_at (s.free nL)]; exact hL) ?_)
          exact strs_rp _) litsF_nil)) (Nat.le_of_ble_eq_true rfl)) (Nat.le_of_ble_eq_true rfl)) (fun H2 v2 s2 r2 => ?_)
      refine ⟨_, rfl, p, 13, rfl, (hz.same s1).same s2, by decide, by decide, fun H3 r b3 z3 r0 r1' => ?_⟩
      have ix : r.toNat < bad3.length := by
        show r.toNat < 13
        omega
      obtain ⟨a, xs, x, rfl, hxs, ex, hx⟩ := rp_at (r2.same (newH_butR hz b3)) r0 ix
      exact ⟨a, xs, r, x, rfl, rfl, .of (newH_sub _ _ hxs), ex, q H3 x _ ((RB.of (s1.trans s2)).trans b3) z3 (List.getElem_mem ix) (hx.same (newH_del hp))⟩
/-! _law_bad_counts: slots 0:reel 1:some 2:letter -/
abbrev s_law_bad_counts : Stmt := topS 60
theorem sc_law_bad_counts : FnScope ["reel", "some", "letter"] ["reel"] (defScope s_law_bad_counts) := ⟨rfl, rfl, rfl, by decide +kernel, rfl, by decide +kernel, by decide +kernel⟩
def kc (z : Str) : List Dat := z.cps.toList.map fun c => .tup [.str (("k" : Str) ++ ⟨#[c]⟩), .int 1]
def badC : List Dat := ([.non, .int 0, .str "a", .dic, .lst [.non], .lst [.tup [.str "a", .int 0]], .lst [.tup [.str "a", .bl true]], .lst [.tup [.str "A", .int 1]], .lst [.tup [.str "b", .int 1], .tup [.str "a", .int 1]], .tup [.str "a", .int 1]] ++ [.lst [.tup [.str "a", .int 1], .tup [.str "a", .int 2]], .lst [.tup [.str "a", .int ((10 : Int) ^ ((30 : Int).toNat) + 1)]], .lst [.tup [.str "a"]], .lst [.tup [.str "a", .int 1, .int 1]], .lst [.lst [.str "", .int 1]], .lst [.tup [.str "a", .str "1"]]]) ++ [.lst (kc "abcdefghijklm")]
def sp_law_bad_counts : Sp := fun vs H Q _ => ∃ (p : Addr), vs = [.ref p] ∧ Reel H p ∧ ∀ H' v d, RB p H H' → Reel H' p → d ∈ badC → Rp (delH H' p) v d → Q v H'
theorem ok_law_bad_counts (D : Df K mg "_law_bad_counts" s_law_bad_counts) (T : Tx mg) (G_law_draw : Has P w K mg base 1 "_law_draw" ["reel", "many"] sp_law_draw) : Has P w K mg base 2 "_law_bad_counts" ["reel"] sp_law_bad_counts := by
  refine has_of D sc_law_bad_counts (fun _ _ _ _ _ _ us hl => match us, hl with | [_], _ => rfl) (fun vs H Q E h => ?_) (fun f cdv A outer s₀ H vs Q E hr h => ?_)
  · obtain ⟨_, rfl, _⟩ := h
    rfl
  · obtain ⟨p, rfl, hz, q⟩ := h
    obtain ⟨op, hp⟩ := hz.at
    refine ⟨_, (pss_cons (ps_set (i := 1) sc_law_bad_counts.nd rfl (by first | exact Or.inl rfl | exact Or.inr rfl) (pe_lst (pa_cons pe_non (pa_cons pe_int (pa_cons pe_str (pa_cons pe_dnewK (pa_cons (pe_lst (pa_cons pe_non pa_nil)) (pa_cons (pe_lst (pa_cons (pe_tup (pa_cons pe_str (pa_cons pe_int pa_nil))) pa_nil)) (pa_cons (pe_lst (pa_cons (pe_tup (pa_cons pe_str (pa_cons pe_bl pa_nil))) pa_nil)) (pa_cons (pe_lst (pa_cons (pe_tup (pa_cons pe_str (pa_cons pe_int pa_nil))) pa_nil)) (pa_cons (pe_lst (pa_cons (pe_tup (pa_cons pe_str (pa_cons pe_int pa_nil))) (pa_cons (pe_tup (pa_cons pe_str (pa_cons pe_int pa_nil))) pa_nil))) (pa_cons (pe_tup (pa_cons pe_str (pa_cons pe_int pa_nil))) pa_nil))))))))))))
    (pss_cons (ps_set (i := 1) sc_law_bad_counts.nd rfl (by first | exact Or.inl rfl | exact Or.inr rfl) (pe_op op_cat (pv 1) (pe_lst (pa_cons (pe_lst (pa_cons (pe_tup (pa_cons pe_str (pa_cons pe_int pa_nil))) (pa_cons (pe_tup (pa_cons pe_str (pa_cons pe_int pa_nil))) pa_nil))) (pa_cons (pe_lst (pa_cons (pe_tup (pa_cons pe_str (pa_cons (pe_op op_add (pe_op op_pow pe_int pe_int) pe_int) pa_nil))) pa_nil)) (pa_cons (pe_lst (pa_cons (pe_tup (pa_cons pe_str pa_nil)) pa_nil)) (pa_cons (pe_lst (pa_cons (pe_tup (pa_cons pe_str (pa_cons pe_int (pa_cons pe_int pa_nil)))) pa_nil)) (pa_cons (pe_lst (pa_cons (pe_lst (pa_cons pe_str (pa_cons pe_int pa_nil))) pa_nil)) (pa_cons (pe_lst (pa_cons (pe_tup (pa_cons pe_str (pa_cons pe_str pa_nil))) pa_nil)) pa_nil)))))))))
    (pss_one (ps_ret (pe_ix ix_list (pe_op op_cat (pv 1) (pe_lst (pa_cons (pe_lc (own := [("letter", 2)]) rfl sc_law_bad_counts.nd (pi_str pe_str) (blkOk_by (N := ["reel", "some", "letter"]) (sc := defScope s_law_bad_counts) (by decide +kernel)) (fun _ _ _ _ _ => (pg_name (i := 2) sc_law_bad_counts.nd rfl (by first | exact Or.inl rfl | exact Or.inr rfl))) (fun _ _ _ _ _ => pts_nil) (fun _ _ _ _ _ => (pe_tup (pa_cons (pe_op op_add_str pe_str (pv 2)) (pa_cons pe_int pa_nil))))) pa_nil))) (pe_callH G_law_draw (hr.mono (by omega)) (by rfl) (pa_cons (pv 0) (pa_cons pe_int pa_nil))) (fun _ _ => rfl)))))), ?_⟩
    refine litF_set (Same.refl _) (d := .lst [.non, .int 0, .str "a", .dic, .lst [.non], .lst [.tup [.str "a", .int 0]], .lst [.tup [.str "a", .bl true]], .lst [.tup [.str "A", .int 1]], .lst [.tup [.str "b", .int 1], .tup [.str "a", .int 1]], .tup [.str "a", .int 1]]) (litF_lst (litsF_cons litF_non (litsF_cons litF_int (litsF_cons litF_str (litsF_cons litF_dic (litsF_cons (litF_lst (litsF_cons litF_non litsF_nil) (Nat.le_of_ble_eq_true rfl)) (litsF_cons (litF_lst (litsF_cons (litF_tup (litsF_cons litF_str (litsF_cons litF_int litsF_nil)) (Nat.le_of_ble_eq_true rfl)) litsF_nil) (Nat.le_of_ble_eq_true rfl)) (litsF_cons (litF_lst (litsF_cons (litF_tup (litsF_cons litF_str (litsF_cons litF_bl litsF_nil)) (Nat.le_of_ble_eq_true rfl)) litsF_nil) (Nat.le_of_ble_eq_true rfl)) (litsF_cons (litF_lst (litsF_cons (litF_tup (litsF_cons litF_str (litsF_cons litF_int litsF_nil)) (Nat.le_of_ble_eq_true rfl)) litsF_nil) (Nat.le_of_ble_eq_true rfl)) (litsF_cons (litF_lst (litsF_cons (litF_tup (litsF_cons litF_str (litsF_cons litF_int litsF_nil)) (Nat.le_of_ble_eq_true rfl)) (litsF_cons (litF_tup (litsF_cons litF_str (litsF_cons litF_int litsF_nil)) (Nat.le_of_ble_eq_true rfl)) litsF_nil)) (Nat.le_of_ble_eq_true rfl)) (litsF_cons (litF_tup (litsF_cons litF_str (litsF_cons litF_int litsF_nil)) (Nat.le_of_ble_eq_true rfl)) litsF_nil)))))))))) (Nat.le_of_ble_eq_true rfl)) (fun H1 v1 s1 r1 => ?_)
    refine litF_set s1 (d := .lst ([.non, .int 0, .str "a", .dic, .lst [.non], .lst [.tup [.str "a", .int 0]], .lst [.tup [.str "a", .bl true]], .lst [.tup [.str "A", .int 1]], .lst [.tup [.str "b", .int 1], .tup [.str "a", .int 1]], .tup [.str "a", .int 1]] ++ [.lst [.tup [.str "a", .int 1], .tup [.str "a", .int 2]], .lst [.tup [.str "a", .int ((10 : Int) ^ ((30 : Int).toNat) + 1)]], .lst [.tup [.str "a"]], .lst [.tup [.str "a", .int 1, .int 1]], .lst [.lst [.str "", .int 1]], .lst [.tup [.str "a", .str "1"]]])) (litF_cat (litF_var rfl r1) (litF_lst (litsF_cons (litF_lst (litsF_cons (litF_tup (litsF_cons litF_str (litsF_cons litF_int litsF_nil)) (Nat.le_of_ble_eq_true rfl)) (litsF_cons (litF_tup (litsF_cons litF_str (litsF_cons litF_int litsF_nil)) (Nat.le_of_ble_eq_true rfl)) litsF_nil)) (Nat.le_of_ble_eq_true rfl)) (litsF_cons (litF_lst (litsF_cons (litF_tup (litsF_cons litF_str (litsF_cons (litF_val (v := .int ((10 : Int) ^ ((30 : Int).toNat) + 1)) (fun H Q q => ⟨_, _, rfl, rfl, ⟨by decide, by decide, by decide⟩, _, _, rfl, rfl, q⟩) (fun H => .int _)) litsF_nil)) (Nat.le_of_ble_eq_true rfl)) litsF_nil) (Nat.le_of_ble_eq_true rfl)) (litsF_cons (litF_lst (litsF_cons (litF_tup (litsF_cons litF_str litsF_nil) (Nat.le_of_ble_eq_true rfl)) litsF_nil) (Nat.le_of_ble_eq_true rfl)) (litsF_cons (litF_lst (litsF_cons (litF_tup (litsF_cons litF_str (litsF_cons litF_int (litsF_cons litF_int litsF_nil))) (Nat.le_of_ble_eq_true rfl)) litsF_nil) (Nat.le_of_ble_eq_true rfl)) (litsF_cons (litF_lst (litsF_cons (litF_lst (litsF_cons litF_str (litsF_cons litF_int litsF_nil)) (Nat.le_of_ble_eq_true rfl)) litsF_nil) (Nat.le_of_ble_eq_true rfl)) (litsF_cons (litF_lst (litsF_cons (litF_tup (litsF_cons litF_str (litsF_cons litF_str litsF_nil)) (Nat.le_of_ble_eq_true rfl)) litsF_nil) (Nat.le_of_ble_eq_true rfl)) litsF_nil)))))) (Nat.le_of_ble_eq_true rfl)) (Nat.le_of_ble_eq_true rfl)) (fun H2 v2 s2 r2 => ?_)
    refine litF_retIx (s1.trans s2) (ds := badC) (litF_cat (litF_var rfl r2) (litF_lst (litsF_cons (d := .lst (kc "abcdefghijklm")) (fun Hq Qq s w q => by
      refine ⟨_, rfl, fun L nL => lc_gen (n := ("abcdefghijklm" : Str).cps.size) (fun i H' => Same Hq H' ∧ ∃ xs, H' L = some (.lst xs) ∧ xs.length = i ∧ Paired (Rp (delH (newH H H') L)) xs ((("abcdefghijklm" : Str).cps.toList.take i).map fun c => Dat.tup [.str (("k" : Str) ++ ⟨#[c]⟩), .int 1])) ⟨same_upd nL, [], upd_same, rfl, .nil⟩ (fun i H' hi _ => hi) (fun H' _ => Nat.le_refl _) (fun i x H1 H2 hi p y => ?_) (fun H' p => ?_)⟩
      · obtain ⟨rfl, c, ec, rfl⟩ := y
        obtain ⟨sm, xs, hL, lx, hp⟩ := p
        have ec' : ("abcdefghijklm" : Str).cps.toList[i]? = some c := by
          rw [Array.getElem?_toList]
          exact ec
        have hi : i < 13 := hi
        refine ⟨rfl, yesT ⟨_, rfl, _, _, rfl, rfl, smallE (by show 1 + 1 ≤ _; decide), (by show 2 ≤ sizeLine; decide), fun u nu => ⟨_, same_upd nu _ _ hL, small (by omega), same_grow nL (sm.trans (same_upd nu)), _, upd_same, by rw [List.length_append, lx]; rfl, ?_⟩⟩⟩
        rw [take_snoc ec', List.map_append]
        have uL : u ≠ L := fun z => by rw [z, hL] at nu; cases nu
        have n0 : H u = none := (s.trans sm).free nu
        have sub : Same (delH (newH H H2) L) (delH (newH H (upd (upd H2 u (.tup [.str (("k" : Str) ++ ⟨#[c]⟩), .int 1])) L (.lst (xs ++ [.ref u])))) L) := fun b o e => by
          by_cases hb : b = L
          · rw [hb, delH_same] at e
            cases e
          · rw [delH_ne hb] at e ⊢
            cases h0 : H b with
            | some o' => rw [newH_old h0] at e; cases e
            | none =>
              rw [newH_at h0] at e ⊢
              rw [upd_ne hb]
              exact same_upd nu _ _ e
        refine Paired.app (rps_same sub hp) (.cons (.tup ?_ (.cons (.str _) (.cons (.int _) .nil))) .nil)
        rw [delH_ne uL, newH_at n0, upd_ne uL, upd_same]
      · obtain ⟨sm, xs, hL, lx, hp⟩ := p
        rw [List.take_of_length_le (by rw [Array.length_toList]; exact Nat.le_refl _)] at hp
        exact q H' _ sm (.lst (by rw [newH_at (s.free nL)]; exact hL) (rps_same delH_sub hp))) litsF_nil) (Nat.le_of_ble_eq_true rfl)) (Nat.le_of_ble_eq_true rfl)) (fun H3 v3 s3 r3 => ?_)
    refine ⟨_, rfl, p, 17, rfl, ((hz.same s1).same s2).same s3, by decide, by decide, fun H4 r b4 z4 r0 r1' => ?_⟩
    have ix : r.toNat < badC.length := by
      show r.toNat < 17
      omega
    obtain ⟨a, xs, x, rfl, hxs, ex, hx⟩ := rp_at (r3.same (newH_butR hz b4)) r0 ix
    exact ⟨a, xs, r, x, rfl, rfl, .of (newH_sub _ _ hxs), ex, q H4 x _ ((RB.of (s1.trans (s2.trans s3))).trans b4) z4 (List.getElem_mem ix) (hx.same (newH_del hp))⟩
end
end UP

set_option Elab.async false
set_option linter.all false
set_option maxRecDepth 100000
set_option maxHeartbeats 4000000
namespace UP
open PySem PySem.Spec PyProof.Rows L2
/-- what a call says: its door, its parts, the word that is due -/
inductive Err : Int → List Dat → Str → Prop
  | d0q {m a : Dat} (fm : m.fits) (fa : a.fit2) (h : m.counts = false) : Err 0 [m, a] "counts"
  | d0s {m a : Dat} (fm : m.fits) (fa : a.fit2) (h0 : m.counts = true) (h : a.state = false) : Err 0 [m, a] "state"
  | d0n {m a : Dat} (fm : m.fits) (fa : a.fit2) (h0 : m.counts = true) (h : a.state = true) : Err 0 [m, a] "none"
  | d1q {m a : Dat} (fm : m.fits) (fa : a.fit2) (h : m.counts = false) : Err 1 [m, a] "counts"
  | d1s {m a : Dat} (fm : m.fits) (fa : a.fit2) (h0 : m.counts = true) (h : a.state = false) : Err 1 [m, a] "state"
  | d1n {m a : Dat} (fm : m.fits) (fa : a.fit2) (h0 : m.counts = true) (h : a.state = true) : Err 1 [m, a] "none"
  | d2q {m a : Dat} (fm : m.fits) (fa : a.fit2) (h : m.counts = false) : Err 2 [m, a] "counts"
  | d2s {m a : Dat} (fm : m.fits) (fa : a.fit2) (h0 : m.counts = true) (h : a.state = false) : Err 2 [m, a] "state"
  | d2n {m a : Dat} (fm : m.fits) (fa : a.fit2) (h0 : m.counts = true) (h : a.state = true) : Err 2 [m, a] "none"
  | d3q {m a : Dat} (fm : m.fits) (fa : a.fit2) (h : m.counts = false) : Err 3 [m, a] "counts"
  | d3s {m a : Dat} (fm : m.fits) (fa : a.fit2) (h0 : m.counts = true) (h : a.state = false) : Err 3 [m, a] "state"
  | d3n {m a : Dat} (fm : m.fits) (fa : a.fit2) (h0 : m.counts = true) (h1 : a.state = true) (h : CanR m.runs a.stt) : Err 3 [m, a] "none"
  | d3i {m a : Dat} (fm : m.fits) (fa : a.fit2) (h0 : m.counts = true) (h1 : a.state = true) (h : ¬ CanR m.runs a.stt) : Err 3 [m, a] "impossible"
  | d4q {m a : Dat} (fm : m.fits) (fa : a.fit) (h : m.counts = false) : Err 4 [m, a] "counts"
  | d4s {m a : Dat} (fm : m.fits) (fa : a.fit) (h0 : m.counts = true) (h : a.kind = false) : Err 4 [m, a] "kind"
  | d4n {m a : Dat} (fm : m.fits) (fa : a.fit) (h0 : m.counts = true) (h : a.kind = true) : Err 4 [m, a] "none"
  | d5q {m : Dat} (fm : m.fits) (h : m.counts = false) : Err 5 [m] "counts"
  | d5n {m : Dat} (fm : m.fits) (h : m.counts = true) : Err 5 [m] "none"
theorem tup1_of {H : Hp} {v : V} {a : Dat} (h : Rp H v (.tup [a])) : ∃ t x, v = .ref t ∧ H t = some (.tup [x]) ∧ Rp H x a := by
  cases h with
  | tup e p =>
    cases p with
    | cons h1 p =>
      cases p
      exact ⟨_, _, rfl, e, h1⟩
theorem tup2_of {H : Hp} {v : V} {a b : Dat} (h : Rp H v (.tup [a, b])) : ∃ t x y, v = .ref t ∧ H t = some (.tup [x, y]) ∧ Rp H x a ∧ Rp H y b := by
  cases h with
  | tup e p =>
    cases p with
    | cons h1 p =>
      cases p with
      | cons h2 p =>
        cases p
        exact ⟨_, _, _, rfl, e, h1, h2⟩
theorem tup3_of {H : Hp} {v : V} {a b c : Dat} (h : Rp H v (.tup [a, b, c])) : ∃ t x y z, v = .ref t ∧ H t = some (.tup [x, y, z]) ∧ Rp H x a ∧ Rp H y b ∧ Rp H z c := by
  cases h with
  | tup e p =>
    cases p with
    | cons h1 p =>
      cases p with
      | cons h2 p =>
        cases p with
        | cons h3 p =>
          cases p
          exact ⟨_, _, _, _, rfl, e, h1, h2, h3⟩
section
variable {P : Program} {w : World} {K : PySem.W.Frag} {mg : Str → Option Value} {base : Heap}
/-! _law_error: slots 0:door 1:parts 2:caught 3:e -/
abbrev s_law_error : Stmt := topS 61
theorem sc_law_error : FnScope ["door", "parts", "caught", "e"] ["door", "parts"] (defScope s_law_error) := ⟨rfl, rfl, rfl, by decide +kernel, rfl, by decide +kernel, by decide +kernel⟩
def sp_law_error : Sp := fun vs H Q _ => ∃ (k : Int) (pq : V) (ps : List Dat) (due : Str), vs = [.int k, pq] ∧ Rp H pq (.tup ps) ∧ Err k ps due ∧ ∀ H', Same H H' → Q (.str due) H'
theorem ok_law_error {CA : Str → Addr} (D : Df K mg "_law_error" s_law_error) (T : Tx mg) (CM : Cmg mg CA) (FC : ClsF K CA "InvalidCounts") (FT : ClsF K CA "InvalidState") (FK : ClsF K CA "InvalidKind") (FI : ClsF K CA "Impossible") (G_law_kind_of : Has P w K mg base 1 "_law_kind_of" ["e"] (sp_law_kind_of K CA))
    (G_can_remain : HasX P w K mg base 7 "can_remain" ["counts", "state"] (sp_reason_against (CA "InvalidCounts") (CA "InvalidState"))) (G_reason_against : HasX P w K mg base 6 "reason_against" ["counts", "state"] (sp_reason_against (CA "InvalidCounts") (CA "InvalidState")))
    (G_shows_against : HasX P w K mg base 6 "shows_against" ["counts", "state", "value"] (sp_shows_against (CA "InvalidCounts") (CA "InvalidState"))) (G_sequence_for : HasX P w K mg base 6 "sequence_for" ["counts", "state"] (sp_sequence_for (CA "InvalidCounts") (CA "InvalidState") (CA "Impossible")))
    (G_remaining_range : HasX P w K mg base 6 "remaining_range" ["counts", "kind"] (sp_remaining_range (CA "InvalidCounts") (CA "InvalidKind"))) (G_remaining_count : HasX P w K mg base 6 "remaining_count" ["counts"] (sp_remaining_count (CA "InvalidCounts"))) :
    Has P w K mg base 8 "_law_error" ["door", "parts"] sp_law_error := by
  refine has_of D sc_law_error (fun _ _ _ _ _ _ us hl => match us, hl with | [_, _], _ => rfl) (fun vs H Q E h => ?_) (fun f cdv A outer s₀ H vs Q E hr h => ?_)
  · obtain ⟨_, _, _, _, rfl, _⟩ := h
    rfl
  · obtain ⟨k, pq, ps, due, rfl, hp, er, q⟩ := h
    have lb : ∀ {H1 : Hp} {a : Addr}, Same H H1 → H1 a = none → ∀ {o H2}, Same (upd H1 a o) H2 → Same H H2 := fun s n _ _ s2 => s.trans ((same_upd n).trans s2)
    have nFC : nameOf "InvalidCounts" = "counts" := by decide +kernel
    have nFT : nameOf "InvalidState" = "state" := by decide +kernel
    have nFK : nameOf "InvalidKind" = "kind" := by decide +kernel
    have nFI : nameOf "Impossible" = "impossible" := by decide +kernel
    refine ⟨_, (pss_cons (ps_set (i := 2) sc_law_error.nd rfl (by first | exact Or.inl rfl | exact Or.inr rfl) pe_non)
    (pss_cons (ps_try_keep (i := 3) (j := 2) rfl rfl sc_law_error.nd rfl rfl ⟨rfl, by decide, .inl (CM.all "PairError" (by decide))⟩ rfl (fun W pn xe tk _ => (pss_one (ps_if (pt_cmpR op_eq (pv 0) pe_int (nomark _)) (pss_one (ps_expr (pe_callXH G_can_remain tk (hr.mono (by omega)) (by rfl) (pa_cons (pe_ix (ix_tupK (K := K) rfl) (pv 1) pe_int (fun _ _ => rfl)) (pa_cons (pe_ix (ix_tupK (K := K) rfl) (pv 1) pe_int (fun _ _ => rfl)) pa_nil))))) (pss_one (ps_if (pt_cmpR op_eq (pv 0) pe_int (nomark _)) (pss_one (ps_expr (pe_callXH G_reason_against tk (hr.mono (by omega)) (by rfl) (pa_cons (pe_ix (ix_tupK (K := K) rfl) (pv 1) pe_int (fun _ _ => rfl)) (pa_cons (pe_ix (ix_tupK (K := K) rfl) (pv 1) pe_int (fun _ _ => rfl)) pa_nil))))) (pss_one (ps_if (pt_cmpR op_eq (pv 0) pe_int (nomark _)) (pss_one (ps_expr (pe_callXH G_shows_against tk (hr.mono (by omega)) (by rfl) (pa_cons (pe_ix (ix_tupK (K := K) rfl) (pv 1) pe_int (fun _ _ => rfl)) (pa_cons (pe_ix (ix_tupK (K := K) rfl) (pv 1) pe_int (fun _ _ => rfl)) (pa_cons pe_non pa_nil)))))) (pss_one (ps_if (pt_cmpR op_eq (pv 0) pe_int (nomark _)) (pss_one (ps_expr (pe_callXH G_sequence_for tk (hr.mono (by omega)) (by rfl) (pa_cons (pe_ix (ix_tupK (K := K) rfl) (pv 1) pe_int (fun _ _ => rfl)) (pa_cons (pe_ix (ix_tupK (K := K) rfl) (pv 1) pe_int (fun _ _ => rfl)) pa_nil))))) (pss_one (ps_if (pt_cmpR op_eq (pv 0) pe_int (nomark _)) (pss_one (ps_expr (pe_callXH G_remaining_range tk (hr.mono (by omega)) (by rfl) (pa_cons (pe_ix (ix_tupK (K := K) rfl) (pv 1) pe_int (fun _ _ => rfl)) (pa_cons (pe_ix (ix_tupK (K := K) rfl) (pv 1) pe_int (fun _ _ => rfl)) pa_nil))))) (pss_one (ps_expr (pe_callXH G_remaining_count tk (hr.mono (by omega)) (by rfl) (pa_cons (pe_ix (ix_tupK (K := K) rfl) (pv 1) pe_int (fun _ _ => rfl)) pa_nil))))))))))))))) (fun a pn => pss_one (ps_set (i := 2) sc_law_error.nd rfl (by first | exact Or.inl rfl | exact Or.inr rfl) (pv 3))))
    (pss_one (ps_ret (pe_ifExp (pt_cmpR op_isN (pv 2) pe_non (nomark _)) pe_str (pe_callH G_law_kind_of (hr.mono (by omega)) (by rfl) (pa_cons (pv 2) pa_nil))))))), ?_⟩
    cases er with
    | d0q fm fa h =>
      obtain ⟨t, x, y, rfl, ht, hx, hy⟩ := tup2_of hp
      refine ⟨_, rfl, rfl, _, rfl, iteP rfl ⟨_, rfl, t, _, 0, _, rfl, rfl, .of ht, rfl, _, rfl, t, _, 1, _, rfl, rfl, .of ht, rfl, x, y, _, _, rfl, hx, fm, hy, fa, fun c0 c1 H1 v1 s1 => ?_, fun c0 H1 s1 => ?_, fun c0 c1 H1 s1 => ?_⟩⟩
      · exfalso; simp_all
      · exact ⟨FC.em, fun x nx => ⟨_, rfl, rfl, _, rfl, iteN rfl ⟨_, rfl, x, _, "InvalidCounts", rfl, ⟨upd_same, dok_none⟩, FC, by decide +kernel, fun H2 s2 => by rw [nFC]; exact q _ (lb s1 nx s2)⟩⟩⟩
      · exfalso; simp_all
    | d0s fm fa h0 h =>
      obtain ⟨t, x, y, rfl, ht, hx, hy⟩ := tup2_of hp
      refine ⟨_, rfl, rfl, _, rfl, iteP rfl ⟨_, rfl, t, _, 0, _, rfl, rfl, .of ht, rfl, _, rfl, t, _, 1, _, rfl, rfl, .of ht, rfl, x, y, _, _, rfl, hx, fm, hy, fa, fun c0 c1 H1 v1 s1 => ?_, fun c0 H1 s1 => ?_, fun c0 c1 H1 s1 => ?_⟩⟩
      · exfalso; simp_all
      · exfalso; simp_all
      · exact ⟨FT.em, fun x nx => ⟨_, rfl, rfl, _, rfl, iteN rfl ⟨_, rfl, x, _, "InvalidState", rfl, ⟨upd_same, dok_none⟩, FT, by decide +kernel, fun H2 s2 => by rw [nFT]; exact q _ (lb s1 nx s2)⟩⟩⟩
    | d0n fm fa h0 h =>
      obtain ⟨t, x, y, rfl, ht, hx, hy⟩ := tup2_of hp
      refine ⟨_, rfl, rfl, _, rfl, iteP rfl ⟨_, rfl, t, _, 0, _, rfl, rfl, .of ht, rfl, _, rfl, t, _, 1, _, rfl, rfl, .of ht, rfl, x, y, _, _, rfl, hx, fm, hy, fa, fun c0 c1 H1 v1 s1 => ?_, fun c0 H1 s1 => ?_, fun c0 c1 H1 s1 => ?_⟩⟩
      · exact ⟨_, rfl, rfl, _, rfl, iteP rfl (q _ s1)⟩
      · exfalso; simp_all
      · exfalso; simp_all
    | d1q fm fa h =>
      obtain ⟨t, x, y, rfl, ht, hx, hy⟩ := tup2_of hp
      refine ⟨_, rfl, rfl, _, rfl, iteN rfl ⟨_, rfl, rfl, _, rfl, iteP rfl ⟨_, rfl, t, _, 0, _, rfl, rfl, .of ht, rfl, _, rfl, t, _, 1, _, rfl, rfl, .of ht, rfl, x, y, _, _, rfl, hx, fm, hy, fa, fun c0 c1 H1 v1 s1 => ?_, fun c0 H1 s1 => ?_, fun c0 c1 H1 s1 => ?_⟩⟩⟩
      · exfalso; simp_all
      · exact ⟨FC.em, fun x nx => ⟨_, rfl, rfl, _, rfl, iteN rfl ⟨_, rfl, x, _, "InvalidCounts", rfl, ⟨upd_same, dok_none⟩, FC, by decide +kernel, fun H2 s2 => by rw [nFC]; exact q _ (lb s1 nx s2)⟩⟩⟩
      · exfalso; simp_all
    | d1s fm fa h0 h =>
      obtain ⟨t, x, y, rfl, ht, hx, hy⟩ := tup2_of hp
      refine ⟨_, rfl, rfl, _, rfl, iteN rfl ⟨_, rfl, rfl, _, rfl, iteP rfl ⟨_, rfl, t, _, 0, _, rfl, rfl, .of ht, rfl, _, rfl, t, _, 1, _, rfl, rfl, .of ht, rfl, x, y, _, _, rfl, hx, fm, hy, fa, fun c0 c1 H1 v1 s1 => ?_, fun c0 H1 s1 => ?_, fun c0 c1 H1 s1 => ?_⟩⟩⟩
      · exfalso; simp_all
      · exfalso; simp_all
      · exact ⟨FT.em, fun x nx => ⟨_, rfl, rfl, _, rfl, iteN rfl ⟨_, rfl, x, _, "InvalidState", rfl, ⟨upd_same, dok_none⟩, FT, by decide +kernel, fun H2 s2 => by rw [nFT]; exact q _ (lb s1 nx s2)⟩⟩⟩
    | d1n fm fa h0 h =>
      obtain ⟨t, x, y, rfl, ht, hx, hy⟩ := tup2_of hp
      refine ⟨_, rfl, rfl, _, rfl, iteN rfl ⟨_, rfl, rfl, _, rfl, iteP rfl ⟨_, rfl, t, _, 0, _, rfl, rfl, .of ht, rfl, _, rfl, t, _, 1, _, rfl, rfl, .of ht, rfl, x, y, _, _, rfl, hx, fm, hy, fa, fun c0 c1 H1 v1 s1 => ?_, fun c0 H1 s1 => ?_, fun c0 c1 H1 s1 => ?_⟩⟩⟩
      · exact ⟨_, rfl, rfl, _, rfl, iteP rfl (q _ s1)⟩
      · exfalso; simp_all
      · exfalso; simp_all
    | d2q fm fa h =>
      obtain ⟨t, x, y, rfl, ht, hx, hy⟩ := tup2_of hp
      refine ⟨_, rfl, rfl, _, rfl, iteN rfl ⟨_, rfl, rfl, _, rfl, iteN rfl ⟨_, rfl, rfl, _, rfl, iteP rfl ⟨_, rfl, t, _, 0, _, rfl, rfl, .of ht, rfl, _, rfl, t, _, 1, _, rfl, rfl, .of ht, rfl, x, y, _, _, rfl, hx, fm, hy, fa, fun c0 c1 H1 v1 s1 => ?_, fun c0 H1 s1 => ?_, fun c0 c1 H1 s1 => ?_⟩⟩⟩⟩
      · exfalso; simp_all
      · exact ⟨FC.em, fun x nx => ⟨_, rfl, rfl, _, rfl, iteN rfl ⟨_, rfl, x, _, "InvalidCounts", rfl, ⟨upd_same, dok_none⟩, FC, by decide +kernel, fun H2 s2 => by rw [nFC]; exact q _ (lb s1 nx s2)⟩⟩⟩
      · exfalso; simp_all
    | d2s fm fa h0 h =>
      obtain ⟨t, x, y, rfl, ht, hx, hy⟩ := tup2_of hp
      refine ⟨_, rfl, rfl, _, rfl, iteN rfl ⟨_, rfl, rfl, _, rfl, iteN rfl ⟨_, rfl, rfl, _, rfl, iteP rfl ⟨_, rfl, t, _, 0, _, rfl, rfl, .of ht, rfl, _, rfl, t, _, 1, _, rfl, rfl, .of ht, rfl, x, y, _, _, rfl, hx, fm, hy, fa, fun c0 c1 H1 v1 s1 => ?_, fun c0 H1 s1 => ?_, fun c0 c1 H1 s1 => ?_⟩⟩⟩⟩
      · exfalso; simp_all
      · exfalso; simp_all
      · exact ⟨FT.em, fun x nx => ⟨_, rfl, rfl, _, rfl, iteN rfl ⟨_, rfl, x, _, "InvalidState", rfl, ⟨upd_same, dok_none⟩, FT, by decide +kernel, fun H2 s2 => by rw [nFT]; exact q _ (lb s1 nx s2)⟩⟩⟩
    | d2n fm fa h0 h =>
      obtain ⟨t, x, y, rfl, ht, hx, hy⟩ := tup2_of hp
      refine ⟨_, rfl, rfl, _, rfl, iteN rfl ⟨_, rfl, rfl, _, rfl, iteN rfl ⟨_, rfl, rfl, _, rfl, iteP rfl ⟨_, rfl, t, _, 0, _, rfl, rfl, .of ht, rfl, _, rfl, t, _, 1, _, rfl, rfl, .of ht, rfl, x, y, _, _, rfl, hx, fm, hy, fa, fun c0 c1 H1 v1 s1 => ?_, fun c0 H1 s1 => ?_, fun c0 c1 H1 s1 => ?_⟩⟩⟩⟩
      · exact ⟨_, rfl, rfl, _, rfl, iteP rfl (q _ s1)⟩
      · exfalso; simp_all
      · exfalso; simp_all
    | d3q fm fa h =>
      obtain ⟨t, x, y, rfl, ht, hx, hy⟩ := tup2_of hp
      refine ⟨_, rfl, rfl, _, rfl, iteN rfl ⟨_, rfl, rfl, _, rfl, iteN rfl ⟨_, rfl, rfl, _, rfl, iteN rfl ⟨_, rfl, rfl, _, rfl, iteP rfl ⟨_, rfl, t, _, 0, _, rfl, rfl, .of ht, rfl, _, rfl, t, _, 1, _, rfl, rfl, .of ht, rfl, x, y, _, _, rfl, hx, fm, hy, fa, fun c0 c1 c2 H1 v1 s1 => ?_, fun c0 H1 s1 => ?_, fun c0 c1 H1 s1 => ?_, fun c0 c1 c2 H1 dx s1 dk => ?_⟩⟩⟩⟩⟩
      · rw [h] at c0; cases c0
      · exact ⟨FC.em, fun x nx => ⟨_, rfl, rfl, _, rfl, iteN rfl ⟨_, rfl, x, _, "InvalidCounts", rfl, ⟨upd_same, dok_none⟩, FC, by decide +kernel, fun H2 s2 => by rw [nFC]; exact q _ (lb s1 nx s2)⟩⟩⟩
      · rw [h] at c0; cases c0
      · rw [h] at c0; cases c0
    | d3s fm fa h0 h =>
      obtain ⟨t, x, y, rfl, ht, hx, hy⟩ := tup2_of hp
      refine ⟨_, rfl, rfl, _, rfl, iteN rfl ⟨_, rfl, rfl, _, rfl, iteN rfl ⟨_, rfl, rfl, _, rfl, iteN rfl ⟨_, rfl, rfl, _, rfl, iteP rfl ⟨_, rfl, t, _, 0, _, rfl, rfl, .of ht, rfl, _, rfl, t, _, 1, _, rfl, rfl, .of ht, rfl, x, y, _, _, rfl, hx, fm, hy, fa, fun c0 c1 c2 H1 v1 s1 => ?_, fun c0 H1 s1 => ?_, fun c0 c1 H1 s1 => ?_, fun c0 c1 c2 H1 dx s1 dk => ?_⟩⟩⟩⟩⟩
      · rw [h] at c1; cases c1
      · rw [h0] at c0; cases c0
      · exact ⟨FT.em, fun x nx => ⟨_, rfl, rfl, _, rfl, iteN rfl ⟨_, rfl, x, _, "InvalidState", rfl, ⟨upd_same, dok_none⟩, FT, by decide +kernel, fun H2 s2 => by rw [nFT]; exact q _ (lb s1 nx s2)⟩⟩⟩
      · rw [h] at c1; cases c1
    | d3n fm fa h0 h1 h =>
      obtain ⟨t, x, y, rfl, ht, hx, hy⟩ := tup2_of hp
      refine ⟨_, rfl, rfl, _, rfl, iteN rfl ⟨_, rfl, rfl, _, rfl, iteN rfl ⟨_, rfl, rfl, _, rfl, iteN rfl ⟨_, rfl, rfl, _, rfl, iteP rfl ⟨_, rfl, t, _, 0, _, rfl, rfl, .of ht, rfl, _, rfl, t, _, 1, _, rfl, rfl, .of ht, rfl, x, y, _, _, rfl, hx, fm, hy, fa, fun c0 c1 c2 H1 v1 s1 => ?_, fun c0 H1 s1 => ?_, fun c0 c1 H1 s1 => ?_, fun c0 c1 c2 H1 dx s1 dk => ?_⟩⟩⟩⟩⟩
      · exact ⟨_, rfl, rfl, _, rfl, iteP rfl (q _ s1)⟩
      · rw [h0] at c0; cases c0
      · rw [h1] at c1; cases c1
      · exact absurd h c2
    | d3i fm fa h0 h1 h =>
      obtain ⟨t, x, y, rfl, ht, hx, hy⟩ := tup2_of hp
      refine ⟨_, rfl, rfl, _, rfl, iteN rfl ⟨_, rfl, rfl, _, rfl, iteN rfl ⟨_, rfl, rfl, _, rfl, iteN rfl ⟨_, rfl, rfl, _, rfl, iteP rfl ⟨_, rfl, t, _, 0, _, rfl, rfl, .of ht, rfl, _, rfl, t, _, 1, _, rfl, rfl, .of ht, rfl, x, y, _, _, rfl, hx, fm, hy, fa, fun c0 c1 c2 H1 v1 s1 => ?_, fun c0 H1 s1 => ?_, fun c0 c1 H1 s1 => ?_, fun c0 c1 c2 H1 dx s1 dk => ?_⟩⟩⟩⟩⟩
      · exact absurd c2 h
      · rw [h0] at c0; cases c0
      · rw [h1] at c1; cases c1
      · exact ⟨FI.em, fun x nx => ⟨_, rfl, rfl, _, rfl, iteN rfl ⟨_, rfl, x, _, "Impossible", rfl, ⟨upd_same, dk.same (same_upd nx)⟩, FI, by decide +kernel, fun H2 s2 => by rw [nFI]; exact q _ (lb s1 nx s2)⟩⟩⟩
    | d4q fm fa h =>
      obtain ⟨t, x, y, rfl, ht, hx, hy⟩ := tup2_of hp
      refine ⟨_, rfl, rfl, _, rfl, iteN rfl ⟨_, rfl, rfl, _, rfl, iteN rfl ⟨_, rfl, rfl, _, rfl, iteN rfl ⟨_, rfl, rfl, _, rfl, iteN rfl ⟨_, rfl, rfl, _, rfl, iteP rfl ⟨_, rfl, t, _, 0, _, rfl, rfl, .of ht, rfl, _, rfl, t, _, 1, _, rfl, rfl, .of ht, rfl, x, y, _, _, rfl, hx, fm, hy, fa, fun c0 c1 H1 v1 s1 => ?_, fun c0 H1 s1 => ?_, fun c0 c1 H1 s1 => ?_⟩⟩⟩⟩⟩⟩
      · exfalso; simp_all
      · exact ⟨FC.em, fun x nx => ⟨_, rfl, rfl, _, rfl, iteN rfl ⟨_, rfl, x, _, "InvalidCounts", rfl, ⟨upd_same, dok_none⟩, FC, by decide +kernel, fun H2 s2 => by rw [nFC]; exact q _ (lb s1 nx s2)⟩⟩⟩
      · exfalso; simp_all
    | d4s fm fa h0 h =>
      obtain ⟨t, x, y, rfl, ht, hx, hy⟩ := tup2_of hp
      refine ⟨_, rfl, rfl, _, rfl, iteN rfl ⟨_, rfl, rfl, _, rfl, iteN rfl ⟨_, rfl, rfl, _, rfl, iteN rfl ⟨_, rfl, rfl, _, rfl, iteN rfl ⟨_, rfl, rfl, _, rfl, iteP rfl ⟨_, rfl, t, _, 0, _, rfl, rfl, .of ht, rfl, _, rfl, t, _, 1, _, rfl, rfl, .of ht, rfl, x, y, _, _, rfl, hx, fm, hy, fa, fun c0 c1 H1 v1 s1 => ?_, fun c0 H1 s1 => ?_, fun c0 c1 H1 s1 => ?_⟩⟩⟩⟩⟩⟩
      · exfalso; simp_all
      · exfalso; simp_all
      · exact ⟨FK.em, fun x nx => ⟨_, rfl, rfl, _, rfl, iteN rfl ⟨_, rfl, x, _, "InvalidKind", rfl, ⟨upd_same, dok_none⟩, FK, by decide +kernel, fun H2 s2 => by rw [nFK]; exact q _ (lb s1 nx s2)⟩⟩⟩
    | d4n fm fa h0 h =>
      obtain ⟨t, x, y, rfl, ht, hx, hy⟩ := tup2_of hp
      refine ⟨_, rfl, rfl, _, rfl, iteN rfl ⟨_, rfl, rfl, _, rfl, iteN rfl ⟨_, rfl, rfl, _, rfl, iteN rfl ⟨_, rfl, rfl, _, rfl, iteN rfl ⟨_, rfl, rfl, _, rfl, iteP rfl ⟨_, rfl, t, _, 0, _, rfl, rfl, .of ht, rfl, _, rfl, t, _, 1, _, rfl, rfl, .of ht, rfl, x, y, _, _, rfl, hx, fm, hy, fa, fun c0 c1 H1 v1 s1 => ?_, fun c0 H1 s1 => ?_, fun c0 c1 H1 s1 => ?_⟩⟩⟩⟩⟩⟩
      · exact ⟨_, rfl, rfl, _, rfl, iteP rfl (q _ s1)⟩
      · exfalso; simp_all
      · exfalso; simp_all
    | d5q fm h =>
      obtain ⟨t, x, rfl, ht, hx⟩ := tup1_of hp
      refine ⟨_, rfl, rfl, _, rfl, iteN rfl ⟨_, rfl, rfl, _, rfl, iteN rfl ⟨_, rfl, rfl, _, rfl, iteN rfl ⟨_, rfl, rfl, _, rfl, iteN rfl ⟨_, rfl, rfl, _, rfl, iteN rfl ⟨_, rfl, t, _, 0, _, rfl, rfl, .of ht, rfl, x, _, rfl, hx, fm, fun c0 H1 v1 s1 => ?_, fun c0 H1 s1 => ?_⟩⟩⟩⟩⟩⟩
      · exfalso; simp_all
      · exact ⟨FC.em, fun x nx => ⟨_, rfl, rfl, _, rfl, iteN rfl ⟨_, rfl, x, _, "InvalidCounts", rfl, ⟨upd_same, dok_none⟩, FC, by decide +kernel, fun H2 s2 => by rw [nFC]; exact q _ (lb s1 nx s2)⟩⟩⟩
    | d5n fm h =>
      obtain ⟨t, x, rfl, ht, hx⟩ := tup1_of hp
      refine ⟨_, rfl, rfl, _, rfl, iteN rfl ⟨_, rfl, rfl, _, rfl, iteN rfl ⟨_, rfl, rfl, _, rfl, iteN rfl ⟨_, rfl, rfl, _, rfl, iteN rfl ⟨_, rfl, rfl, _, rfl, iteN rfl ⟨_, rfl, t, _, 0, _, rfl, rfl, .of ht, rfl, x, _, rfl, hx, fm, fun c0 H1 v1 s1 => ?_, fun c0 H1 s1 => ?_⟩⟩⟩⟩⟩⟩
      · exact ⟨_, rfl, rfl, _, rfl, iteP rfl (q _ s1)⟩
      · exfalso; simp_all
end
end UP

set_option Elab.async false
set_option linter.all false
set_option maxRecDepth 100000
set_option maxHeartbeats 4000000
namespace UP
open PySem PySem.Spec PyProof.Rows L2
theorem room70 {A : Around} {k : Nat} (hr : Room k A) : A.units + 70 < cLine := by
  have := hr.un
  omega
theorem q30 : (10 : Int) ^ ((30 : Int).toNat) = 1000000000000000000000000000000 := by decide +kernel
theorem q39 : (10 : Int) ^ ((39 : Int).toNat) = 1000000000000000000000000000000000000000 := by decide +kernel
def Dat.fitB : Dat → Bool
  | .str z => decide (z.length ≤ 4000)
  | _ => true
def Dat.fit2B (d : Dat) : Bool := match d.two with
  | some (x, _) => x.fitB
  | none => true
def Dat.fitsB (d : Dat) : Bool := match d.parts with
  | some l => decide (l.length ≤ 100000) && l.all Dat.fit2B
  | none => true
theorem fitB_ok {d : Dat} (h : d.fitB = true) : d.fit := by
  cases d with
  | str z =>
    have h : decide (z.length ≤ 4000) = true := h
    show z.length ≤ 4000
    exact of_decide_eq_true h
  | _ => exact trivial
theorem fit2B_ok {d : Dat} (h : d.fit2B = true) : d.fit2 := by
  intro x y e
  unfold Dat.fit2B at h
  rw [e] at h
  exact fitB_ok h
theorem fitsB_ok {d : Dat} (h : d.fitsB = true) : d.fits := by
  intro l e
  unfold Dat.fitsB at h
  rw [e] at h
  have h : (decide (l.length ≤ 100000) && l.all Dat.fit2B) = true := h
  rw [Bool.and_eq_true] at h
  exact ⟨of_decide_eq_true h.1, fun x hx => fit2B_ok (List.all_eq_true.mp h.2 x hx)⟩
/-! ### the size of a repr -/
structure Nis (w n : Nat) (d : PyData) : Prop where
  dep : d.depth ≤ n
  sho : d.showable = true
  lea : d.leavesShort 100 = true
  wei : d.weight ≤ w
def nisB (w n : Nat) (d : PyData) : Bool := decide (d.depth ≤ n) && (d.showable && (d.leavesShort 100 && decide (d.weight ≤ w)))
theorem nis_of {w n : Nat} {d : PyData} (h : nisB w n d = true) : Nis w n d := by
  unfold nisB at h
  rw [Bool.and_eq_true, Bool.and_eq_true, Bool.and_eq_true] at h
  exact ⟨of_decide_eq_true h.1, h.2.1, h.2.2.1, of_decide_eq_true h.2.2.2⟩
theorem Nis.fits {w n : Nat} {d : PyData} (h : Nis w n d) (hw : w ≤ 150000) (hn : n ≤ 64) : d.showable = true ∧ d.depth ≤ 64 ∧ d.shown.length ≤ sizeLine := by
  refine ⟨h.sho, Nat.le_trans h.dep hn, ?_⟩
  have h1 := PyData.shown_le 100 (by decide) d h.lea
  have h2 := h.wei
  have h3 : d.shown.length ≤ 16000000 := by omega
  exact Nat.le_trans h3 (by decide)
theorem Nis.mono {w w' n n' : Nat} {d : PyData} (h : Nis w n d) (h1 : w ≤ w') (h2 : n ≤ n') : Nis w' n' d := ⟨Nat.le_trans h.dep h2, h.sho, h.lea, Nat.le_trans h.wei h1⟩
theorem nis_non : Nis 0 0 .none := ⟨Nat.le_refl _, rfl, rfl, Nat.le_refl _⟩
theorem nis_str {s : Str} (h : KindOk s) : Nis 8 0 (.str s) := by
  refine ⟨Nat.le_refl _, rfl, ?_, h.2.1⟩
  rw [PyData.leavesShort, List.all_eq_true]
  intro c hc
  have := h.2.2 c hc
  exact decide_eq_true (by omega)
theorem nis_int {i : Int} (h : i.natAbs < 10 ^ 60) : Nis 201 0 (.int i) := by
  have h2 : i.natAbs < 2 ^ 200 := Nat.lt_of_lt_of_le h (by decide)
  have h3 : i.natAbs.log2 < 200 := by
    by_cases z : i.natAbs = 0
    · rw [z]
      decide
    · exact (Nat.log2_lt z).mpr h2
  refine ⟨Nat.le_refl _, ?_, ?_, ?_⟩
  · rw [PyData.showable]
    exact decide_eq_true (by omega)
  · rw [PyData.leavesShort]
    refine decide_eq_true ?_
    have e := int_text_length_le10 (k := 60) (by decide) h
    show (Str.ofString (toString i)).length ≤ 100
    rw [PySem.ofString_length]
    omega
  · rw [PyData.weight]
    split <;> omega
theorem nis_items {w n : Nat} : ∀ {ds : List PyData}, (∀ d ∈ ds, Nis w n d) → PyData.depthAll ds ≤ n ∧ PyData.showableAll ds = true ∧ PyData.leavesShortAll 100 ds = true ∧ PyData.weightAll ds ≤ (w + 1) * ds.length
  | [], _ => ⟨Nat.zero_le _, rfl, rfl, Nat.zero_le _⟩
  | d :: t, h => by
    have h1 := h d (List.mem_cons_self ..)
    obtain ⟨a, b, c, e⟩ := nis_items (ds := t) fun x hx => h x (List.mem_cons_of_mem _ hx)
    refine ⟨?_, ?_, ?_, ?_⟩
    · rw [PyData.depthAll]
      exact Nat.max_le.mpr ⟨h1.dep, a⟩
    · rw [PyData.showableAll, h1.sho, b]
      rfl
    · rw [PyData.leavesShortAll, h1.lea, c]
      rfl
    · rw [PyData.weightAll, List.length_cons, Nat.mul_add]
      have := h1.wei
      omega
theorem nis_list {w n : Nat} {ds : List PyData} (h : ∀ d ∈ ds, Nis w n d) : Nis ((w + 1) * ds.length) (n + 1) (.list ds) := by
  obtain ⟨b, c, e, f⟩ := nis_items h
  exact ⟨by rw [PyData.depth]; omega, by rw [PyData.showable]; exact c, by rw [PyData.leavesShort]; exact e, by rw [PyData.weight]; exact f⟩
theorem nis_tup {w n : Nat} {ds : List PyData} (h : ∀ d ∈ ds, Nis w n d) : Nis ((w + 1) * ds.length) (n + 1) (.tuple ds) := by
  obtain ⟨b, c, e, f⟩ := nis_items h
  exact ⟨by rw [PyData.depth]; omega, by rw [PyData.showable]; exact c, by rw [PyData.leavesShort]; exact e, by rw [PyData.weight]; exact f⟩
theorem pys_map : ∀ (l : List Dat), Dat.pys l = l.map Dat.py
  | [] => rfl
  | x :: t => congrArg (x.py :: ·) (pys_map t)
theorem nis_lst {w n : Nat} {l : List Dat} (h : ∀ d ∈ l, Nis w n d.py) : Nis ((w + 1) * l.length) (n + 1) (Dat.lst l).py := by
  have := nis_list (w := w) (n := n) (ds := Dat.pys l) fun d hd => by
    rw [pys_map] at hd
    obtain ⟨x, hx, rfl⟩ := List.mem_map.mp hd
    exact h x hx
  rw [pys_map, List.length_map, ← pys_map] at this
  exact this
theorem badC_all : ∀ d ∈ badC, d.counts = false ∧ d.fitsB = true ∧ nisB 1500 3 d.py = true := by decide +kernel
theorem bad1_all : ∀ d ∈ badM 1, d.state = false ∧ d.fit2B = true ∧ nisB 1500 3 d.py = true := by decide +kernel
theorem bad2_all : ∀ d ∈ badM 2, d.kind = false ∧ d.fitB = true ∧ nisB 1500 3 d.py = true := by decide +kernel
def GoodD (d : Dat) : Prop := (∃ (k : Int) (ps : List Dat) (due : Str), d = .tup [.int k, .tup ps, .str due] ∧ Err k ps due) ∧ Nis 3400 6 d.py
def GoodR (l : List Dat) : Prop := ∀ d ∈ l, GoodD d
theorem goodR_nil : GoodR [] := fun d hd => by cases hd
theorem goodR_cons {x : Dat} {l : List Dat} (h : GoodD x) (t : GoodR l) : GoodR (x :: l) := fun d hd => by
  rcases List.mem_cons.mp hd with e | e
  · rw [e]
    exact h
  · exact t d e
theorem goodR_app {a b : List Dat} (h : GoodR a) (t : GoodR b) : GoodR (a ++ b) := fun d hd => (List.mem_append.mp hd).elim (h d) (t d)
theorem nilN : ∀ x ∈ ([] : List Dat), Nis 1500 3 x.py := fun x hx => by cases hx
theorem consN {y : Dat} {l : List Dat} (h : Nis 1500 3 y.py) (t : ∀ x ∈ l, Nis 1500 3 x.py) : ∀ x ∈ y :: l, Nis 1500 3 x.py := fun d hd => by
  rcases List.mem_cons.mp hd with e | e
  · rw [e]
    exact h
  · exact t d e
theorem nis_tupD {w n : Nat} {l : List Dat} (h : ∀ d ∈ l, Nis w n d.py) : Nis ((w + 1) * l.length) (n + 1) (Dat.tup l).py := by
  have := nis_tup (w := w) (n := n) (ds := Dat.pys l) fun d hd => by
    rw [pys_map] at hd
    obtain ⟨x, hx, rfl⟩ := List.mem_map.mp hd
    exact h x hx
  rw [pys_map, List.length_map, ← pys_map] at this
  exact this
theorem nis_three {a b c : PyData} {wa wb wc n : Nat} (ha : Nis wa n a) (hb : Nis wb n b) (hc : Nis wc n c) : Nis (wa + wb + wc + 3) (n + 1) (.tuple [a, b, c]) := by
  have a1 := ha.dep
  have b1 := hb.dep
  have c1 := hc.dep
  have a2 := ha.wei
  have b2 := hb.wei
  have c2 := hc.wei
  refine ⟨?_, ?_, ?_, ?_⟩
  · rw [PyData.depth, PyData.depthAll, PyData.depthAll, PyData.depthAll, PyData.depthAll]
    omega
  · rw [PyData.showable, PyData.showableAll, PyData.showableAll, PyData.showableAll, PyData.showableAll, ha.sho, hb.sho, hc.sho]
    rfl
  · rw [PyData.leavesShort, PyData.leavesShortAll, PyData.leavesShortAll, PyData.leavesShortAll, PyData.leavesShortAll, ha.lea, hb.lea, hc.lea]
    rfl
  · rw [PyData.weight, PyData.weightAll, PyData.weightAll, PyData.weightAll, PyData.weightAll]
    omega
theorem nis_row {k : Int} {ps : List Dat} {due : Str} (hk : k.natAbs < 10 ^ 60) (l : ps.length ≤ 2) (hd : Nis 100 0 (PyData.str due)) (h : ∀ x ∈ ps, Nis 1500 3 x.py) : Nis 3400 6 (Dat.tup [.int k, .tup ps, .str due]).py := by
  have h1 := (nis_tupD h).mono (w' := 3002) (n' := 4) (by omega) (Nat.le_refl _)
  exact (nis_three ((nis_int hk).mono (Nat.le_refl _) (by decide)) h1 (hd.mono (Nat.le_refl _) (by decide))).mono (by decide) (by decide)
theorem err4 {dr : Int} {ps : List Dat} {due : Str} (h : dr = 0 ∨ dr = 1 ∨ dr = 2 ∨ dr = 3) (a : Err 0 ps due) (b : Err 1 ps due) (c : Err 2 ps due) (d : Err 3 ps due) : Err dr ps due := by
  rcases h with e | e | e | e
  · rw [e]; exact a
  · rw [e]; exact b
  · rw [e]; exact c
  · rw [e]; exact d
theorem err3 {dr : Int} {ps : List Dat} {due : Str} (h : dr = 0 ∨ dr = 1 ∨ dr = 2) (a : Err 0 ps due) (b : Err 1 ps due) (c : Err 2 ps due) : Err dr ps due := by
  rcases h with e | e | e
  · rw [e]; exact a
  · rw [e]; exact b
  · rw [e]; exact c
def DfD (K : PySem.W.Frag) (mg : Str → Option Value) (x : Str) (st : Stmt) (dvs : List V) : Prop := ∃ f fd, mg x = some (.ref f) ∧ FunD K x x (defArgs st) (defBody st) (defScope st) dvs [] f fd
theorem g_step {i : Nat} {v : V} {σ : L2.St} {H : Hp} {x : TS} {D : Ends} (h : x D (σ.set i (some v)) H) : gName i v σ H (Ends.nx { D with nx := x D }) := h
theorem gen_heap {T A : Hp → Prop} {h : Hp} (k : ∀ H', A H' → T H') (a : A h) : T h := k h a
theorem gen_setF {i : Nat} {v : V} {σ : L2.St} {H : Hp} {k : L2.St → Hp → Prop} {n : Int} (e : v = .int n) (h : k (σ.set i (some (.int n))) H) : gName i v σ H k := by
  subst e
  exact h
theorem lit_set1 {t : TE} {d : Dat} {i : Nat} {D : Ends} {σ : L2.St} {H : Hp} (h : Lit σ H t d) (q : ∀ H' v, Same H H' → Rp H' v d → D.nx (σ.set i (some v)) H') : tAsg t (gName i) D σ H := h H _ (Same.refl _) q
theorem run_kc {k : Str} {c : Int} (hk : kindB k = true) (c1 : 1 ≤ c) (c2 : c ≤ 1000000000000000000000000000000) : (Dat.tup [.str k, .int c]).run = true := by
  show (kindB k && decide (1 ≤ c ∧ c ≤ 1000000000000000000000000000000)) = true
  rw [hk, decide_eq_true ⟨c1, c2⟩]
  rfl
def kf (z : Str) : List Dat := z.cps.toList.map fun c => .tup [.str (("k" : Str) ++ ⟨#[c]⟩), .int ((10 : Int) ^ ((30 : Int).toNat))]
def dFull : Dat := .lst (kf "abcdefghijkl")
theorem full_can : CanR dFull.runs none := by
  refine ⟨(fun r h => by cases h), by decide +kernel, by decide +kernel, by decide +kernel⟩
theorem nil_can : CanR [] none := ⟨(fun r h => by cases h), (fun r h => by cases h), rfl, (fun r h => by cases h)⟩
section
variable {P : Program} {w : World} {K : PySem.W.Frag} {mg : Str → Option Value} {base : Heap}
/-! law: slots 0:script 1:reel 2:k 3:good 4:full 5:rows 6:door 7:kept 8:bad 9:no_state 10:no_kind 11:parts 12:due 13:letter -/
abbrev s_law : Stmt := topS 62
theorem sc_law : FnScope ["script", "reel", "k", "good", "full", "rows", "door", "kept", "bad", "no_state", "no_kind", "parts", "due", "letter"] ["script"] (defScope s_law) := ⟨rfl, rfl, rfl, by decide +kernel, rfl, by decide +kernel, by decide +kernel⟩
def sp_law (K : PySem.W.Frag) : Sp := fun vs H Q _ => ∃ (a : Addr) (ns : List Int), vs = [.ref a] ∧ SqL K H a (ns.map V.int) ∧ ns.length ≤ 63 ∧ ∀ H', Q (.bl true) H'
theorem fn_law {f : Addr} {fd : FuncData} (F : Fun K "law" "law" s_law f fd) (T : Tx mg)
    (G_law_reel : Has P w K mg base 1 "_law_reel" ["script"] (sp_law_reel K)) (G_law_draw : Has P w K mg base 1 "_law_draw" ["reel", "many"] sp_law_draw)
    (G_law_bad : Has P w K mg base 2 "_law_bad" ["reel", "which"] sp_law_bad) (G_law_bad_counts : Has P w K mg base 2 "_law_bad_counts" ["reel"] sp_law_bad_counts) (G_law_error : Has P w K mg base 8 "_law_error" ["door", "parts"] sp_law_error) :
    FnC P w K mg base f fd ["script"] (sp_law K) := by
  refine fnC_of F sc_law (fun vs H Q E h => ?_) (fun cdv outer s H vs Q E hr h => ?_)
  · obtain ⟨_, _, rfl, _⟩ := h
    rfl
  · obtain ⟨a, ns, rfl, hS, l63, q⟩ := h
    have hr := Room.deeper (show Room (9 + 1) callerA from ⟨rfl, by decide, by decide⟩) (envOfC "law" (defScope s_law) s.heap.objs.size f cdv)
    refine ⟨_, (pss_cons (ps_set (i := 1) sc_law.nd rfl (by first | exact Or.inl rfl | exact Or.inr rfl) (pe_callH G_law_reel (hr.mono (by omega)) (by rfl) (pa_cons (pv 0) pa_nil)))
    (pss_cons (ps_for PassesOwn.never rfl (pi_range1 (by rfl) T.n_range (pa_cons (pe_op op_add pe_int (pe_callB (call_min2 rfl) (by rfl) T.n_min (by decide +kernel) (pa_cons (pe_callB call_len_seq (by rfl) T.n_len (by decide +kernel) (pa_cons (pv 0) pa_nil)) (pa_cons pe_int pa_nil)))) pa_nil)) (pg_name (i := 2) sc_law.nd rfl (by first | exact Or.inl rfl | exact Or.inr rfl))
      (pss_cons (ps_par3 (i := 8) (j := 9) (l := 10) (by rfl) sc_law.nd rfl rfl rfl (by decide) (by decide) (by decide) rfl rfl rfl (pa_cons (pe_callH G_law_bad_counts (hr.mono (by omega)) (by rfl) (pa_cons (pv 1) pa_nil)) (pa_cons (pe_callH G_law_bad (hr.mono (by omega)) (by rfl) (pa_cons (pv 1) (pa_cons pe_int pa_nil))) (pa_cons (pe_callH G_law_bad (hr.mono (by omega)) (by rfl) (pa_cons (pv 1) (pa_cons pe_int pa_nil))) pa_nil))) (by rfl))
    (pss_cons (ps_set (i := 3) sc_law.nd rfl (by first | exact Or.inl rfl | exact Or.inr rfl) (pe_lst (pa_cons (pe_tup (pa_cons pe_str (pa_cons (pe_op op_pow pe_int pe_int) pa_nil))) (pa_cons (pe_tup (pa_cons pe_str (pa_cons (pe_op op_add pe_int (pe_callH G_law_draw (hr.mono (by omega)) (by rfl) (pa_cons (pv 1) (pa_cons pe_int pa_nil)))) pa_nil))) pa_nil))))
    (pss_cons (ps_setLc (i := 4) (own := [("letter", 13)]) rfl sc_law.nd rfl rfl (sw_true rfl rfl rfl (by decide +kernel)) (pi_str pe_str) (blkOk_by (N := ["script", "reel", "k", "good", "full", "rows", "door", "kept", "bad", "no_state", "no_kind", "parts", "due", "letter"]) (sc := defScope s_law) (by decide +kernel)) (fun _ _ _ _ _ => (pg_name (i := 13) sc_law.nd rfl (by first | exact Or.inl rfl | exact Or.inr rfl))) (fun _ _ _ _ _ => pts_nil) (fun _ _ _ _ _ => (pe_tup (pa_cons (pe_op op_add_str pe_str (pv 13)) (pa_cons (pe_op op_pow pe_int pe_int) pa_nil)))))
    (pss_cons (ps_set (i := 5) sc_law.nd rfl (by first | exact Or.inl rfl | exact Or.inr rfl) (pe_lst pa_nil))
    (pss_cons (ps_for PassesOwn.never rfl (pi_range1 (by rfl) T.n_range (pa_cons pe_int pa_nil)) (pg_name (i := 6) sc_law.nd rfl (by first | exact Or.inl rfl | exact Or.inr rfl))
      (pss_cons (ps_set (i := 5) sc_law.nd rfl (by first | exact Or.inl rfl | exact Or.inr rfl) (pe_op op_cat (pv 5) (pe_lst (pa_cons (pe_tup (pa_cons (pv 6) (pa_cons (pe_tup (pa_cons (pv 8) (pa_cons (pv 9) pa_nil))) (pa_cons pe_str pa_nil)))) (pa_cons (pe_tup (pa_cons (pv 6) (pa_cons (pe_tup (pa_cons (pv 3) (pa_cons (pv 9) pa_nil))) (pa_cons pe_str pa_nil)))) pa_nil)))))
    (pss_one (ps_set (i := 5) sc_law.nd rfl (by first | exact Or.inl rfl | exact Or.inr rfl) (pe_op op_cat (pv 5) (pe_lst (pa_cons (pe_tup (pa_cons (pv 6) (pa_cons (pe_tup (pa_cons (pe_lst pa_nil) (pa_cons (pv 9) pa_nil))) (pa_cons pe_str pa_nil)))) (pa_cons (pe_tup (pa_cons (pv 6) (pa_cons (pe_tup (pa_cons (pv 4) (pa_cons pe_non pa_nil))) (pa_cons pe_str pa_nil)))) (pa_cons (pe_tup (pa_cons (pv 6) (pa_cons (pe_tup (pa_cons (pe_lst pa_nil) (pa_cons pe_non pa_nil))) (pa_cons pe_str pa_nil)))) pa_nil)))))))))
    (pss_cons (ps_for PassesOwn.never rfl (pi_range1 (by rfl) T.n_range (pa_cons pe_int pa_nil)) (pg_name (i := 6) sc_law.nd rfl (by first | exact Or.inl rfl | exact Or.inr rfl))
      (pss_one (ps_set (i := 5) sc_law.nd rfl (by first | exact Or.inl rfl | exact Or.inr rfl) (pe_op op_cat (pv 5) (pe_lst (pa_cons (pe_tup (pa_cons (pv 6) (pa_cons (pe_tup (pa_cons (pv 3) (pa_cons (pe_tup (pa_cons pe_str (pa_cons pe_int pa_nil))) pa_nil))) (pa_cons pe_str pa_nil)))) (pa_cons (pe_tup (pa_cons (pv 6) (pa_cons (pe_tup (pa_cons (pv 3) (pa_cons pe_non pa_nil))) (pa_cons pe_str pa_nil)))) pa_nil)))))))
    (pss_cons (ps_set (i := 5) sc_law.nd rfl (by first | exact Or.inl rfl | exact Or.inr rfl) (pe_op op_cat (pv 5) (pe_lst (pa_cons (pe_tup (pa_cons pe_int (pa_cons (pe_tup (pa_cons (pv 3) (pa_cons (pe_tup (pa_cons pe_str (pa_cons pe_int pa_nil))) pa_nil))) (pa_cons pe_str pa_nil)))) (pa_cons (pe_tup (pa_cons pe_int (pa_cons (pe_tup (pa_cons (pv 3) (pa_cons pe_non pa_nil))) (pa_cons pe_str pa_nil)))) pa_nil)))))
    (pss_cons (ps_set (i := 5) sc_law.nd rfl (by first | exact Or.inl rfl | exact Or.inr rfl) (pe_op op_cat (pv 5) (pe_lst (pa_cons (pe_tup (pa_cons pe_int (pa_cons (pe_tup (pa_cons (pv 8) (pa_cons (pv 10) pa_nil))) (pa_cons pe_str pa_nil)))) (pa_cons (pe_tup (pa_cons pe_int (pa_cons (pe_tup (pa_cons (pv 3) (pa_cons (pv 10) pa_nil))) (pa_cons pe_str pa_nil)))) (pa_cons (pe_tup (pa_cons pe_int (pa_cons (pe_tup (pa_cons (pv 4) (pa_cons pe_str pa_nil))) (pa_cons pe_str pa_nil)))) pa_nil))))))
    (pss_cons (ps_set (i := 5) sc_law.nd rfl (by first | exact Or.inl rfl | exact Or.inr rfl) (pe_op op_cat (pv 5) (pe_lst (pa_cons (pe_tup (pa_cons pe_int (pa_cons (pe_tup (pa_cons (pv 8) pa_nil)) (pa_cons pe_str pa_nil)))) (pa_cons (pe_tup (pa_cons pe_int (pa_cons (pe_tup (pa_cons (pv 4) pa_nil)) (pa_cons pe_str pa_nil)))) (pa_cons (pe_tup (pa_cons pe_int (pa_cons (pe_tup (pa_cons (pe_tup pa_nil) pa_nil)) (pa_cons pe_str pa_nil)))) pa_nil))))))
    (pss_cons (ps_set (i := 7) sc_law.nd rfl (by first | exact Or.inl rfl | exact Or.inr rfl) (pe_callB (call_reprR (by rfl) (room70 hr)) (by rfl) T.n_repr (by decide +kernel) (pa_cons (pv 5) pa_nil)))
    (pss_cons (ps_for PassesOwn.never rfl (pi_list (pv 5)) (pg_tup rfl (pgs_cons (pg_name (i := 6) sc_law.nd rfl (by first | exact Or.inl rfl | exact Or.inr rfl)) (pgs_cons (pg_name (i := 11) sc_law.nd rfl (by first | exact Or.inl rfl | exact Or.inr rfl)) (pgs_cons (pg_name (i := 12) sc_law.nd rfl (by first | exact Or.inl rfl | exact Or.inr rfl)) pgs_nil))))
      (pss_one (ps_if (pt_cmpR op_ne (pe_callH G_law_error (hr.mono (by omega)) (by rfl) (pa_cons (pv 6) (pa_cons (pv 11) pa_nil))) (pv 12) (nomark _)) (pss_one (ps_ret pe_bl)) pss_nil)))
    (pss_one (ps_if (pt_cmpR op_ne (pe_callB (call_reprR (by rfl) (room70 hr)) (by rfl) T.n_repr (by decide +kernel) (pa_cons (pv 5) pa_nil)) (pv 7) (nomark _)) (pss_one (ps_ret pe_bl)) pss_nil))))))))))))))
    (pss_one (ps_ret pe_bl)))), ?_⟩
    refine ⟨_, rfl, a, ns, rfl, hS, fun H1 p s1 np z1 => ?_⟩
    refine ⟨_, rfl, a, _, rfl, .inl (s1.seq hS), _, _, rfl, _, _, rfl, rfl, _, rfl, ?_, ?_, for_range (lo := 0) (n := _) (fun i σ H' => ∃ y2 y3 y4 y5 y6 y7 y8 y9 y10 y11 y12 y13, σ = [some (.ref a), some (.ref p), y2, y3, y4, y5, y6, y7, y8, y9, y10, y11, y12, y13] ∧ Reel H' p)
      ⟨none, none, none, none, none, none, none, none, none, none, none, none, rfl, z1⟩ (fun i σ H2 hi hP => ?_) (fun σ H2 hP => q _)⟩
    · rw [List.length_map]
      split <;> omega
    · rw [List.length_map]
      split <;> omega
    · obtain ⟨y2, y3, y4, y5, y6, y7, y8, y9, y10, y11, y12, y13, rfl, z2⟩ := hP
      clear z1
      refine ⟨_, rfl, p, rfl, z2, fun H3 bv dB b3 z3 mB rB => ⟨_, rfl, p, 1, rfl, z3, by decide, by decide, fun H4 wv dW b4 z4 mW rW => ⟨_, rfl, p, 2, rfl, z4, by decide, by decide, fun H5 nv dN b5 z5 mN rN => ?_⟩⟩⟩
      have rB := (rB.same (delH_RB b4)).same (delH_RB b5)
      have rW := rW.same (delH_RB b5)
      obtain ⟨qB, fB, nB⟩ := badC_all dB mB
      obtain ⟨sW, fW, nW⟩ := bad1_all dW mW
      obtain ⟨kN, gN, nN⟩ := bad2_all dN mN
      have fB := fitsB_ok fB
      have fW := fit2B_ok fW
      have gN := fitB_ok gN
      have nB := nis_of nB
      have nW := nis_of nW
      have nN := nis_of nN
      clear b3 b4 b5 z2 z3 z4 mB mW mN
      refine ⟨_, _, _, rfl, ?_⟩
      -- good
      refine ⟨_, _, rfl, rfl, ⟨by decide, by decide, by decide⟩, (by show 2 ≤ sizeLine; decide), fun t1 n1 => ?_⟩
      have u1 := same_upd (o := .tup [.str "a", .int ((10 : Int) ^ ((30 : Int).toNat))]) n1
      have t1p : t1 ≠ p := z5.ne n1
      have z6 := z5.same u1
      have rB := rB.same (delH_mono u1)
      have rW := rW.same (delH_mono u1)
      have rN := rN.same (delH_mono u1)
      have r1 : Rp (delH (upd H5 t1 (.tup [.str "a", .int ((10 : Int) ^ ((30 : Int).toNat))])) p) (.ref t1) (.tup [.str "a", .int ((10 : Int) ^ ((30 : Int).toNat))]) := .tup (by rw [delH_ne t1p, upd_same]) (.cons (.str _) (.cons (.int _) .nil))
      generalize upd H5 t1 (.tup [.str "a", .int ((10 : Int) ^ ((30 : Int).toNat))]) = H6 at *
      refine ⟨_, rfl, p, 9, rfl, z6, by decide, by decide, fun H7 r b7 z7 r0 r9 => ⟨_, _, rfl, rfl, (by show 2 ≤ sizeLine; decide), fun t2 n2 => ⟨(by show 2 ≤ sizeLine; decide), fun gA ng => ?_⟩⟩⟩
      have rB := (rB.same (delH_RB b7)).same delH_sub
      have rW := (rW.same (delH_RB b7)).same delH_sub
      have rN := (rN.same (delH_RB b7)).same delH_sub
      have r1 := (r1.same (delH_RB b7)).same delH_sub
      have u2 := same_upd (o := .tup [.str "b", .int (1 + r)]) n2
      have r2 : Rp (upd H7 t2 (.tup [.str "b", .int (1 + r)])) (.ref t2) (.tup [.str "b", .int (1 + r)]) := .tup upd_same (.cons (.str _) (.cons (.int _) .nil))
      have u3 := same_upd (o := .lst [.ref t1, .ref t2]) ng
      have rG : Rp (upd (upd H7 t2 (.tup [.str "b", .int (1 + r)])) gA (.lst [.ref t1, .ref t2])) (.ref gA) (.lst [.tup [.str "a", .int ((10 : Int) ^ ((30 : Int).toNat))], .tup [.str "b", .int (1 + r)]]) := .lst upd_same (.cons ((r1.same u2).same u3) (.cons (r2.same u3) .nil))
      have u23 := u2.trans u3
      have rB := rB.same u23
      have rW := rW.same u23
      have rN := rN.same u23
      have z8 := z7.same u23
      refine g_step ?_
      refine gen_heap (A := fun Hn => Same H7 Hn ∧ Rp Hn (.ref gA) (.lst [.tup [.str "a", .int ((10 : Int) ^ ((30 : Int).toNat))], .tup [.str "b", .int (1 + r)]]) ∧ Rp Hn bv dB ∧ Rp Hn wv dW ∧ Rp Hn nv dN ∧ Reel Hn p) (fun H8 zz => ?_) ⟨u23, rG, rB, rW, rN, z8⟩
      clear rG rB rW rN z8 r1 r2 u2 u3 u23 z7 b7 z6
      obtain ⟨_, rG, rB, rW, rN, z8⟩ := zz
      clear ng n2
      -- full
      refine ⟨_, rfl, fun fF nF => lc_gen (n := ("abcdefghijkl" : Str).cps.size) (fun i H' => Same H8 H' ∧ ∃ xs, H' fF = some (.lst xs) ∧ xs.length = i ∧ Paired (Rp (delH H' fF)) xs ((("abcdefghijkl" : Str).cps.toList.take i).map fun c => Dat.tup [.str (("k" : Str) ++ ⟨#[c]⟩), .int ((10 : Int) ^ ((30 : Int).toNat))])) ⟨same_upd nF, [], upd_same, rfl, .nil⟩ (fun i H' hi _ => hi) (fun H' _ => Nat.le_refl _) (fun i x H9 H10 hi p y => ?_) (fun Hf p => ?_)⟩
      · obtain ⟨rfl, c, ec, rfl⟩ := y
        obtain ⟨sm, xs, hL, lx, hp⟩ := p
        have ec' : ("abcdefghijkl" : Str).cps.toList[i]? = some c := by
          rw [Array.getElem?_toList]
          exact ec
        have hi : i < 12 := hi
        refine ⟨rfl, yesT ⟨_, rfl, _, _, rfl, rfl, smallE (by show 1 + 1 ≤ _; decide), _, _, rfl, rfl, ⟨by decide, by decide, by decide⟩, (by show 2 ≤ sizeLine; decide), fun u nu => ⟨_, same_upd nu _ _ hL, small (by omega), same_grow nF (sm.trans (same_upd nu)), _, upd_same, by rw [List.length_append, lx]; rfl, ?_⟩⟩⟩
        rw [take_snoc ec', List.map_append]
        have uL : u ≠ fF := fun z => by rw [z, hL] at nu; cases nu
        have sub : Same (delH H10 fF) (delH (upd (upd H10 u (.tup [.str (("k" : Str) ++ ⟨#[c]⟩), .int ((10 : Int) ^ ((30 : Int).toNat))])) fF (.lst (xs ++ [.ref u]))) fF) := by
          rw [delH_upd]
          exact delH_mono (same_upd nu)
        refine Paired.app (rps_same sub hp) (.cons (.tup ?_ (.cons (.str _) (.cons (.int _) .nil))) .nil)
        rw [delH_ne uL, upd_ne uL, upd_same]
      obtain ⟨sF, xsF, hLF, _, hpF⟩ := p
      rw [List.take_of_length_le (by rw [Array.length_toList]; exact Nat.le_refl _)] at hpF
      have rF : Rp Hf (.ref fF) dFull := .lst hLF (rps_same delH_sub hpF)
      have rB := rB.same sF
      have rW := rW.same sF
      have rN := rN.same sF
      have rG := rG.same sF
      have sT : Same H8 Hf := sF
      clear hLF hpF nF
      -- facts
      have fN : Dat.non.fit2 := fit2B_ok rfl
      have fE : (Dat.lst []).fits := fitsB_ok (by decide +kernel)
      have qE : (Dat.lst []).counts = true := by decide +kernel
      have cE : CanR (Dat.lst []).runs Dat.non.stt := nil_can
      have fT : (Dat.tup []).fits := fitsB_ok (by decide +kernel)
      have qT : (Dat.tup []).counts = true := by decide +kernel
      have fF' : dFull.fits := fitsB_ok (by decide +kernel)
      have qF : dFull.counts = true := by decide +kernel
      have cF : CanR dFull.runs Dat.non.stt := full_can
      have nF : Nis 1500 3 dFull.py := nis_of (by decide +kernel)
      have fc : (Dat.tup [.str "c", .int 1]).fit2 := fit2B_ok (by decide +kernel)
      have sc : (Dat.tup [.str "c", .int 1]).state = true := by decide +kernel
      have gO : (Dat.str "other").fit := fitB_ok (by decide +kernel)
      have kO : (Dat.str "other").kind = true := by decide +kernel
      have ra := run_kc (k := "a") (c := (10 : Int) ^ ((30 : Int).toNat)) (by decide +kernel) (by rw [q30]; decide) (by rw [q30]; decide)
      have rb := run_kc (k := "b") (c := 1 + r) (by decide +kernel) (by omega) (by omega)
      obtain ⟨dG, edG⟩ : ∃ dG : Dat, Dat.lst [.tup [.str "a", .int ((10 : Int) ^ ((30 : Int).toNat))], .tup [.str "b", .int (1 + r)]] = dG := ⟨_, rfl⟩
      have fG : dG.fits := by
        rw [← edG]
        exact fitsB_ok rfl
      have qG : dG.counts = true := by
        rw [← edG]
        have e0 : (Dat.lst [.tup [.str "a", .int ((10 : Int) ^ ((30 : Int).toNat))], .tup [.str "b", .int (1 + r)]]).counts = (decide ((([.tup [.str "a", .int ((10 : Int) ^ ((30 : Int).toNat))], .tup [.str "b", .int (1 + r)]] : List Dat).length : Int) ≤ 12) && (([.tup [.str "a", .int ((10 : Int) ^ ((30 : Int).toNat))], .tup [.str "b", .int (1 + r)]] : List Dat).all Dat.run && ((List.range (([.tup [.str "a", .int ((10 : Int) ^ ((30 : Int).toNat))], .tup [.str "b", .int (1 + r)]] : List Dat).length - 1)).map (stepC [.tup [.str "a", .int ((10 : Int) ^ ((30 : Int).toNat))], .tup [.str "b", .int (1 + r)]])).all id)) := rfl
        have st : stepC [.tup [.str "a", .int ((10 : Int) ^ ((30 : Int).toNat))], .tup [.str "b", .int (1 + r)]] 0 = true := by
          show decide (("a" : Str).cps.toList < ("b" : Str).cps.toList) = true
          decide +kernel
        rw [e0, List.all_cons, List.all_cons, List.all_nil, ra, rb]
        show (decide (((2 : Nat) : Int) ≤ 12) && ((true && (true && true)) && (stepC [.tup [.str "a", .int ((10 : Int) ^ ((30 : Int).toNat))], .tup [.str "b", .int (1 + r)]] 0 && true))) = true
        rw [st]
        decide
      have eG : dG.runs = ([(("a" : Str), (10 : Int) ^ ((30 : Int).toNat)), (("b" : Str), 1 + r)] : List Run) := by rw [← edG]; rfl
      have iC : ¬ CanR dG.runs (Dat.tup [.str "c", .int 1]).stt := fun z => by
        rw [eG] at z
        have := z.1 (("c" : Str), 1) rfl
        have this : ("c" : Str) ∈ (["a", "b"] : List Str) := this
        exact absurd this (by decide)
      have iN : ¬ CanR dG.runs Dat.non.stt := fun z => by
        rw [eG] at z
        have e : cwR ([(("a" : Str), (10 : Int) ^ ((30 : Int).toNat)), (("b" : Str), 1 + r)] : List Run) none = ([(("a" : Str), (10 : Int) ^ ((30 : Int).toNat)), (("b" : Str), 1 + r)] : List Run) := rfl
        have h := z.2.2.2 (("a" : Str), (10 : Int) ^ ((30 : Int).toNat)) (by show _ ∈ cwR _ none; rw [e]; exact List.mem_cons_self ..)
        have h : 2 * ((10 : Int) ^ ((30 : Int).toNat)) ≤ lenR (cwR ([(("a" : Str), (10 : Int) ^ ((30 : Int).toNat)), (("b" : Str), 1 + r)] : List Run) none) := h
        rw [e, lenR_cons, lenR_cons, lenR_nil, q30] at h
        have h : 2 * 1000000000000000000000000000000 ≤ 1000000000000000000000000000000 + (1 + r + 0) := h
        omega
      have nG : Nis 1500 3 dG.py := by
        rw [← edG]
        have := nis_lst (w := 404) (n := 1) (l := [.tup [.str "a", .int ((10 : Int) ^ ((30 : Int).toNat))], .tup [.str "b", .int (1 + r)]]) fun x hx => by
          rcases List.mem_cons.mp hx with e | hx
          · rw [e]
            exact nis_of (by decide +kernel)
          · rw [List.mem_singleton.mp hx]
            have := nis_tupD (w := 201) (n := 0) (l := [.str "b", .int (1 + r)]) fun x hx => by
              rcases List.mem_cons.mp hx with e | hx
              · rw [e]
                exact nis_of (by decide +kernel)
              · rw [List.mem_singleton.mp hx]
                exact nis_int (by omega)
            exact this.mono (by show 202 * 2 ≤ _; decide) (by decide)
        exact this.mono (by show 405 * 2 ≤ _; decide) (by decide)
      rw [edG] at rG
      clear edG ra rb eG
      -- rows
      refine ⟨Nat.zero_le _, fun rw0 nr => ?_⟩
      have sr := same_upd (o := .lst []) nr
      have rr : Rp (upd Hf rw0 (.lst [])) (.ref rw0) (.lst []) := .lst upd_same .nil
      have gg : GoodR [] := goodR_nil
      have ll : ([] : List Dat).length ≤ 0 + 5 * 0 := Nat.le_refl _
      have rB := rB.same sr
      have rW := rW.same sr
      have rN := rN.same sr
      have rG := rG.same sr
      have rF := rF.same sr
      have sT := sT.trans sr
      generalize ([] : List Dat) = l at rr gg ll
      obtain ⟨vr, ev⟩ : ∃ vr : V, V.ref rw0 = vr := ⟨_, rfl⟩
      rw [ev] at rr
      refine g_step ?_
      rw [ev]
      generalize upd Hf rw0 (.lst []) = Hg at *
      refine ⟨4, rfl, by decide, by decide, for_range (lo := 0) (n := 4) (fun j σ H' => ∃ vr l y6, σ = [some (.ref a), some (.ref p), some (.int (0 + i)), some (.ref gA), some (.ref fF), some vr, y6, y7, some bv, some wv, some nv, y11, y12, y13] ∧ Same Hg H' ∧ Rp H' vr (.lst l) ∧ GoodR l ∧ l.length ≤ 0 + 5 * j) ⟨vr, l, _, rfl, Same.refl _, rr, gg, ll⟩ (fun j σ H' hj hP => ?_) (fun σ Hk hP => ?_)⟩
      · obtain ⟨vr, l, y6, rfl, sm, rr, gg, ll⟩ := hP
        obtain ⟨dr, ed⟩ : ∃ dr : Int, (0 : Int) + (j : Int) = dr := ⟨_, rfl⟩
        have hdr : dr = 0 ∨ dr = 1 ∨ dr = 2 ∨ dr = 3 := by omega
        have sT : Same Hg H' := sm
        have rB := rB.same sm
        have rW := rW.same sm
        have rN := rN.same sm
        have rG := rG.same sm
        have rF := rF.same sm
        refine gen_setF (n := dr) (congrArg V.int ed) ?_
        refine lit_set (d := .lst (l ++ [.tup [.int dr, .tup [dB, dW], .str "counts"], .tup [.int dr, .tup [dG, dW], .str "state"]])) (lit_cat (lit_var rfl rr) (lit_lst (lits_cons (lit_tup (lits_cons (lit_var rfl (.int _)) (lits_cons (lit_tup (lits_cons (lit_var rfl rB) (lits_cons (lit_var rfl rW) lits_nil)) (Nat.le_of_ble_eq_true rfl)) (lits_cons lit_str lits_nil))) (Nat.le_of_ble_eq_true rfl)) (lits_cons (lit_tup (lits_cons (lit_var rfl (.int _)) (lits_cons (lit_tup (lits_cons (lit_var rfl rG) (lits_cons (lit_var rfl rW) lits_nil)) (Nat.le_of_ble_eq_true rfl)) (lits_cons lit_str lits_nil))) (Nat.le_of_ble_eq_true rfl)) lits_nil)) (Nat.le_of_ble_eq_true rfl)) (by show l.length + 2 ≤ 1000; omega)) (fun Hr0 vr sr rr => ?_)
        have gg : GoodR (l ++ [.tup [.int dr, .tup [dB, dW], .str "counts"], .tup [.int dr, .tup [dG, dW], .str "state"]]) := goodR_app gg (goodR_cons ⟨⟨_, _, _, rfl, err4 hdr (.d0q fB fW qB) (.d1q fB fW qB) (.d2q fB fW qB) (.d3q fB fW qB)⟩, nis_row (by omega) (Nat.le_of_ble_eq_true rfl) (nis_of (by decide +kernel)) (consN (nB) (consN (nW) (nilN)))⟩ (goodR_cons ⟨⟨_, _, _, rfl, err4 hdr (.d0s fG fW qG sW) (.d1s fG fW qG sW) (.d2s fG fW qG sW) (.d3s fG fW qG sW)⟩, nis_row (by omega) (Nat.le_of_ble_eq_true rfl) (nis_of (by decide +kernel)) (consN (nG) (consN (nW) (nilN)))⟩ (goodR_nil)))
        have ll : (l ++ ([.tup [.int dr, .tup [dB, dW], .str "counts"], .tup [.int dr, .tup [dG, dW], .str "state"]] : List Dat)).length ≤ 0 + 5 * j + 2 := by rw [List.length_append]; exact Nat.add_le_add_right ll _
        generalize l ++ ([.tup [.int dr, .tup [dB, dW], .str "counts"], .tup [.int dr, .tup [dG, dW], .str "state"]] : List Dat) = l at rr gg ll
        have rB := rB.same sr
        have rW := rW.same sr
        have rN := rN.same sr
        have rG := rG.same sr
        have rF := rF.same sr
        have sT := sT.trans sr
        refine lit_set1 (d := .lst (l ++ [.tup [.int dr, .tup [.lst [], dW], .str "state"], .tup [.int dr, .tup [dFull, .non], .str "none"], .tup [.int dr, .tup [.lst [], .non], .str "none"]])) (lit_cat (lit_var rfl rr) (lit_lst (lits_cons (lit_tup (lits_cons (lit_var rfl (.int _)) (lits_cons (lit_tup (lits_cons (lit_lst lits_nil (Nat.le_of_ble_eq_true rfl)) (lits_cons (lit_var rfl rW) lits_nil)) (Nat.le_of_ble_eq_true rfl)) (lits_cons lit_str lits_nil))) (Nat.le_of_ble_eq_true rfl)) (lits_cons (lit_tup (lits_cons (lit_var rfl (.int _)) (lits_cons (lit_tup (lits_cons (lit_var rfl rF) (lits_cons lit_non lits_nil)) (Nat.le_of_ble_eq_true rfl)) (lits_cons lit_str lits_nil))) (Nat.le_of_ble_eq_true rfl)) (lits_cons (lit_tup (lits_cons (lit_var rfl (.int _)) (lits_cons (lit_tup (lits_cons (lit_lst lits_nil (Nat.le_of_ble_eq_true rfl)) (lits_cons lit_non lits_nil)) (Nat.le_of_ble_eq_true rfl)) (lits_cons lit_str lits_nil))) (Nat.le_of_ble_eq_true rfl)) lits_nil))) (Nat.le_of_ble_eq_true rfl)) (by show l.length + 3 ≤ 1000; omega)) (fun Hr1 vr sr rr => ?_)
        have gg : GoodR (l ++ [.tup [.int dr, .tup [.lst [], dW], .str "state"], .tup [.int dr, .tup [dFull, .non], .str "none"], .tup [.int dr, .tup [.lst [], .non], .str "none"]]) := goodR_app gg (goodR_cons ⟨⟨_, _, _, rfl, err4 hdr (.d0s fE fW qE sW) (.d1s fE fW qE sW) (.d2s fE fW qE sW) (.d3s fE fW qE sW)⟩, nis_row (by omega) (Nat.le_of_ble_eq_true rfl) (nis_of (by decide +kernel)) (consN (nis_of (by decide +kernel)) (consN (nW) (nilN)))⟩ (goodR_cons ⟨⟨_, _, _, rfl, err4 hdr (.d0n fF' fN qF rfl) (.d1n fF' fN qF rfl) (.d2n fF' fN qF rfl) (.d3n fF' fN qF rfl cF)⟩, nis_row (by omega) (Nat.le_of_ble_eq_true rfl) (nis_of (by decide +kernel)) (consN (nF) (consN (nis_of (by decide +kernel)) (nilN)))⟩ (goodR_cons ⟨⟨_, _, _, rfl, err4 hdr (.d0n fE fN qE rfl) (.d1n fE fN qE rfl) (.d2n fE fN qE rfl) (.d3n fE fN qE rfl cE)⟩, nis_row (by omega) (Nat.le_of_ble_eq_true rfl) (nis_of (by decide +kernel)) (consN (nis_of (by decide +kernel)) (consN (nis_of (by decide +kernel)) (nilN)))⟩ (goodR_nil))))
        have ll : (l ++ ([.tup [.int dr, .tup [.lst [], dW], .str "state"], .tup [.int dr, .tup [dFull, .non], .str "none"], .tup [.int dr, .tup [.lst [], .non], .str "none"]] : List Dat)).length ≤ 0 + 5 * j + 2 + 3 := by rw [List.length_append]; exact Nat.add_le_add_right ll _
        generalize l ++ ([.tup [.int dr, .tup [.lst [], dW], .str "state"], .tup [.int dr, .tup [dFull, .non], .str "none"], .tup [.int dr, .tup [.lst [], .non], .str "none"]] : List Dat) = l at rr gg ll
        have rB := rB.same sr
        have rW := rW.same sr
        have rN := rN.same sr
        have rG := rG.same sr
        have rF := rF.same sr
        have sT := sT.trans sr
        exact ⟨vr, l, _, rfl, sT, rr, gg, by omega⟩
      obtain ⟨vr, l, y6, rfl, sm, rr, gg, ll⟩ := hP
      have ll : l.length ≤ 20 := ll
      have rB := rB.same sm
      have rW := rW.same sm
      have rN := rN.same sm
      have rG := rG.same sm
      have rF := rF.same sm
      have sT := sT.trans sm
      refine ⟨3, rfl, by decide, by decide, for_range (lo := 0) (n := 3) (fun j σ H' => ∃ vr l y6, σ = [some (.ref a), some (.ref p), some (.int (0 + i)), some (.ref gA), some (.ref fF), some vr, y6, y7, some bv, some wv, some nv, y11, y12, y13] ∧ Same Hk H' ∧ Rp H' vr (.lst l) ∧ GoodR l ∧ l.length ≤ 20 + 2 * j) ⟨vr, l, _, rfl, Same.refl _, rr, gg, ll⟩ (fun j σ H' hj hP => ?_) (fun σ Hm hP => ?_)⟩
      · obtain ⟨vr, l, y6, rfl, sm, rr, gg, ll⟩ := hP
        obtain ⟨dr, ed⟩ : ∃ dr : Int, (0 : Int) + (j : Int) = dr := ⟨_, rfl⟩
        have hdr : dr = 0 ∨ dr = 1 ∨ dr = 2 := by omega
        have sT : Same Hk H' := sm
        have rB := rB.same sm
        have rW := rW.same sm
        have rN := rN.same sm
        have rG := rG.same sm
        have rF := rF.same sm
        refine gen_setF (n := dr) (congrArg V.int ed) ?_
        refine lit_set1 (d := .lst (l ++ [.tup [.int dr, .tup [dG, .tup [.str "c", .int 1]], .str "none"], .tup [.int dr, .tup [dG, .non], .str "none"]])) (lit_cat (lit_var rfl rr) (lit_lst (lits_cons (lit_tup (lits_cons (lit_var rfl (.int _)) (lits_cons (lit_tup (lits_cons (lit_var rfl rG) (lits_cons (lit_tup (lits_cons lit_str (lits_cons lit_int lits_nil)) (Nat.le_of_ble_eq_true rfl)) lits_nil)) (Nat.le_of_ble_eq_true rfl)) (lits_cons lit_str lits_nil))) (Nat.le_of_ble_eq_true rfl)) (lits_cons (lit_tup (lits_cons (lit_var rfl (.int _)) (lits_cons (lit_tup (lits_cons (lit_var rfl rG) (lits_cons lit_non lits_nil)) (Nat.le_of_ble_eq_true rfl)) (lits_cons lit_str lits_nil))) (Nat.le_of_ble_eq_true rfl)) lits_nil)) (Nat.le_of_ble_eq_true rfl)) (by show l.length + 2 ≤ 1000; omega)) (fun Hr2 vr sr rr => ?_)
        have gg : GoodR (l ++ [.tup [.int dr, .tup [dG, .tup [.str "c", .int 1]], .str "none"], .tup [.int dr, .tup [dG, .non], .str "none"]]) := goodR_app gg (goodR_cons ⟨⟨_, _, _, rfl, err3 hdr (.d0n fG fc qG sc) (.d1n fG fc qG sc) (.d2n fG fc qG sc)⟩, nis_row (by omega) (Nat.le_of_ble_eq_true rfl) (nis_of (by decide +kernel)) (consN (nG) (consN (nis_of (by decide +kernel)) (nilN)))⟩ (goodR_cons ⟨⟨_, _, _, rfl, err3 hdr (.d0n fG fN qG rfl) (.d1n fG fN qG rfl) (.d2n fG fN qG rfl)⟩, nis_row (by omega) (Nat.le_of_ble_eq_true rfl) (nis_of (by decide +kernel)) (consN (nG) (consN (nis_of (by decide +kernel)) (nilN)))⟩ (goodR_nil)))
        have ll : (l ++ ([.tup [.int dr, .tup [dG, .tup [.str "c", .int 1]], .str "none"], .tup [.int dr, .tup [dG, .non], .str "none"]] : List Dat)).length ≤ 20 + 2 * j + 2 := by rw [List.length_append]; exact Nat.add_le_add_right ll _
        generalize l ++ ([.tup [.int dr, .tup [dG, .tup [.str "c", .int 1]], .str "none"], .tup [.int dr, .tup [dG, .non], .str "none"]] : List Dat) = l at rr gg ll
        have rB := rB.same sr
        have rW := rW.same sr
        have rN := rN.same sr
        have rG := rG.same sr
        have rF := rF.same sr
        have sT := sT.trans sr
        exact ⟨vr, l, _, rfl, sT, rr, gg, by omega⟩
      obtain ⟨vr, l, y6, rfl, sm, rr, gg, ll⟩ := hP
      have ll : l.length ≤ 26 := ll
      have rB := rB.same sm
      have rW := rW.same sm
      have rN := rN.same sm
      have rG := rG.same sm
      have rF := rF.same sm
      have sT := sT.trans sm
      refine lit_set (d := .lst (l ++ [.tup [.int 3, .tup [dG, .tup [.str "c", .int 1]], .str "impossible"], .tup [.int 3, .tup [dG, .non], .str "impossible"]])) (lit_cat (lit_var rfl rr) (lit_lst (lits_cons (lit_tup (lits_cons lit_int (lits_cons (lit_tup (lits_cons (lit_var rfl rG) (lits_cons (lit_tup (lits_cons lit_str (lits_cons lit_int lits_nil)) (Nat.le_of_ble_eq_true rfl)) lits_nil)) (Nat.le_of_ble_eq_true rfl)) (lits_cons lit_str lits_nil))) (Nat.le_of_ble_eq_true rfl)) (lits_cons (lit_tup (lits_cons lit_int (lits_cons (lit_tup (lits_cons (lit_var rfl rG) (lits_cons lit_non lits_nil)) (Nat.le_of_ble_eq_true rfl)) (lits_cons lit_str lits_nil))) (Nat.le_of_ble_eq_true rfl)) lits_nil)) (Nat.le_of_ble_eq_true rfl)) (by show l.length + 2 ≤ 1000; omega)) (fun Hr3 vr sr rr => ?_)
      have gg : GoodR (l ++ [.tup [.int 3, .tup [dG, .tup [.str "c", .int 1]], .str "impossible"], .tup [.int 3, .tup [dG, .non], .str "impossible"]]) := goodR_app gg (goodR_cons ⟨⟨_, _, _, rfl, .d3i fG fc qG sc iC⟩, nis_row (by omega) (Nat.le_of_ble_eq_true rfl) (nis_of (by decide +kernel)) (consN (nG) (consN (nis_of (by decide +kernel)) (nilN)))⟩ (goodR_cons ⟨⟨_, _, _, rfl, .d3i fG fN qG rfl iN⟩, nis_row (by omega) (Nat.le_of_ble_eq_true rfl) (nis_of (by decide +kernel)) (consN (nG) (consN (nis_of (by decide +kernel)) (nilN)))⟩ (goodR_nil)))
      have ll : (l ++ ([.tup [.int 3, .tup [dG, .tup [.str "c", .int 1]], .str "impossible"], .tup [.int 3, .tup [dG, .non], .str "impossible"]] : List Dat)).length ≤ 26 + 2 := by rw [List.length_append]; exact Nat.add_le_add_right ll _
      generalize l ++ ([.tup [.int 3, .tup [dG, .tup [.str "c", .int 1]], .str "impossible"], .tup [.int 3, .tup [dG, .non], .str "impossible"]] : List Dat) = l at rr gg ll
      have rB := rB.same sr
      have rW := rW.same sr
      have rN := rN.same sr
      have rG := rG.same sr
      have rF := rF.same sr
      have sT := sT.trans sr
      refine lit_set (d := .lst (l ++ [.tup [.int 4, .tup [dB, dN], .str "counts"], .tup [.int 4, .tup [dG, dN], .str "kind"], .tup [.int 4, .tup [dFull, .str "other"], .str "none"]])) (lit_cat (lit_var rfl rr) (lit_lst (lits_cons (lit_tup (lits_cons lit_int (lits_cons (lit_tup (lits_cons (lit_var rfl rB) (lits_cons (lit_var rfl rN) lits_nil)) (Nat.le_of_ble_eq_true rfl)) (lits_cons lit_str lits_nil))) (Nat.le_of_ble_eq_true rfl)) (lits_cons (lit_tup (lits_cons lit_int (lits_cons (lit_tup (lits_cons (lit_var rfl rG) (lits_cons (lit_var rfl rN) lits_nil)) (Nat.le_of_ble_eq_true rfl)) (lits_cons lit_str lits_nil))) (Nat.le_of_ble_eq_true rfl)) (lits_cons (lit_tup (lits_cons lit_int (lits_cons (lit_tup (lits_cons (lit_var rfl rF) (lits_cons lit_str lits_nil)) (Nat.le_of_ble_eq_true rfl)) (lits_cons lit_str lits_nil))) (Nat.le_of_ble_eq_true rfl)) lits_nil))) (Nat.le_of_ble_eq_true rfl)) (by show l.length + 3 ≤ 1000; omega)) (fun Hr4 vr sr rr => ?_)
      have gg : GoodR (l ++ [.tup [.int 4, .tup [dB, dN], .str "counts"], .tup [.int 4, .tup [dG, dN], .str "kind"], .tup [.int 4, .tup [dFull, .str "other"], .str "none"]]) := goodR_app gg (goodR_cons ⟨⟨_, _, _, rfl, .d4q fB gN qB⟩, nis_row (by omega) (Nat.le_of_ble_eq_true rfl) (nis_of (by decide +kernel)) (consN (nB) (consN (nN) (nilN)))⟩ (goodR_cons ⟨⟨_, _, _, rfl, .d4s fG gN qG kN⟩, nis_row (by omega) (Nat.le_of_ble_eq_true rfl) (nis_of (by decide +kernel)) (consN (nG) (consN (nN) (nilN)))⟩ (goodR_cons ⟨⟨_, _, _, rfl, .d4n fF' gO qF kO⟩, nis_row (by omega) (Nat.le_of_ble_eq_true rfl) (nis_of (by decide +kernel)) (consN (nF) (consN (nis_of (by decide +kernel)) (nilN)))⟩ (goodR_nil))))
      have ll : (l ++ ([.tup [.int 4, .tup [dB, dN], .str "counts"], .tup [.int 4, .tup [dG, dN], .str "kind"], .tup [.int 4, .tup [dFull, .str "other"], .str "none"]] : List Dat)).length ≤ 26 + 2 + 3 := by rw [List.length_append]; exact Nat.add_le_add_right ll _
      generalize l ++ ([.tup [.int 4, .tup [dB, dN], .str "counts"], .tup [.int 4, .tup [dG, dN], .str "kind"], .tup [.int 4, .tup [dFull, .str "other"], .str "none"]] : List Dat) = l at rr gg ll
      have rB := rB.same sr
      have rW := rW.same sr
      have rN := rN.same sr
      have rG := rG.same sr
      have rF := rF.same sr
      have sT := sT.trans sr
      refine lit_set (d := .lst (l ++ [.tup [.int 5, .tup [dB], .str "counts"], .tup [.int 5, .tup [dFull], .str "none"], .tup [.int 5, .tup [.tup []], .str "none"]])) (lit_cat (lit_var rfl rr) (lit_lst (lits_cons (lit_tup (lits_cons lit_int (lits_cons (lit_tup (lits_cons (lit_var rfl rB) lits_nil) (Nat.le_of_ble_eq_true rfl)) (lits_cons lit_str lits_nil))) (Nat.le_of_ble_eq_true rfl)) (lits_cons (lit_tup (lits_cons lit_int (lits_cons (lit_tup (lits_cons (lit_var rfl rF) lits_nil) (Nat.le_of_ble_eq_true rfl)) (lits_cons lit_str lits_nil))) (Nat.le_of_ble_eq_true rfl)) (lits_cons (lit_tup (lits_cons lit_int (lits_cons (lit_tup (lits_cons (lit_tup lits_nil (Nat.le_of_ble_eq_true rfl)) lits_nil) (Nat.le_of_ble_eq_true rfl)) (lits_cons lit_str lits_nil))) (Nat.le_of_ble_eq_true rfl)) lits_nil))) (Nat.le_of_ble_eq_true rfl)) (by show l.length + 3 ≤ 1000; omega)) (fun Hr5 vr sr rr => ?_)
      have gg : GoodR (l ++ [.tup [.int 5, .tup [dB], .str "counts"], .tup [.int 5, .tup [dFull], .str "none"], .tup [.int 5, .tup [.tup []], .str "none"]]) := goodR_app gg (goodR_cons ⟨⟨_, _, _, rfl, .d5q fB qB⟩, nis_row (by omega) (Nat.le_of_ble_eq_true rfl) (nis_of (by decide +kernel)) (consN (nB) (nilN))⟩ (goodR_cons ⟨⟨_, _, _, rfl, .d5n fF' qF⟩, nis_row (by omega) (Nat.le_of_ble_eq_true rfl) (nis_of (by decide +kernel)) (consN (nF) (nilN))⟩ (goodR_cons ⟨⟨_, _, _, rfl, .d5n fT qT⟩, nis_row (by omega) (Nat.le_of_ble_eq_true rfl) (nis_of (by decide +kernel)) (consN (nis_of (by decide +kernel)) (nilN))⟩ (goodR_nil))))
      have ll : (l ++ ([.tup [.int 5, .tup [dB], .str "counts"], .tup [.int 5, .tup [dFull], .str "none"], .tup [.int 5, .tup [.tup []], .str "none"]] : List Dat)).length ≤ 26 + 2 + 3 + 3 := by rw [List.length_append]; exact Nat.add_le_add_right ll _
      generalize l ++ ([.tup [.int 5, .tup [dB], .str "counts"], .tup [.int 5, .tup [dFull], .str "none"], .tup [.int 5, .tup [.tup []], .str "none"]] : List Dat) = l at rr gg ll
      have rB := rB.same sr
      have rW := rW.same sr
      have rN := rN.same sr
      have rG := rG.same sr
      have rF := rF.same sr
      have sT := sT.trans sr
      -- kept
      obtain ⟨k1, k2, k3⟩ := (nis_lst (w := 3400) (n := 6) (l := l) fun d hd => (gg d hd).2).fits (by have := Nat.mul_le_mul_left 3401 ll; omega) (by decide)
      obtain ⟨rA, xs, rfl, hx, hpr⟩ : ∃ rA xs, vr = .ref rA ∧ Hr5 rA = some (.lst xs) ∧ Paired (Rp Hr5) xs l := by
        cases rr with
        | lst e p => exact ⟨_, _, rfl, e, p⟩
      refine ⟨_, rfl, rA, .lst l, rfl, rr, k1, k2, k3, ?_⟩
      refine ⟨_, rfl, rA, rfl, ⟨xs, .of hx⟩, for_list (K := K) (a := rA) (xs := xs) (fun j σ H' => ∃ y6 y11 y12, σ = [some (.ref a), some (.ref p), some (.int (0 + i)), some (.ref gA), some (.ref fF), some (.ref rA), y6, some (.str (Dat.lst l).py.shown), some bv, some wv, some nv, y11, y12, y13] ∧ Same Hr5 H') ⟨_, _, _, rfl, Same.refl _⟩ (fun j σ H' _ hP => ?_) (fun j x σ H' ex hP => ?_) (fun σ H' hP => ?_)⟩
      · obtain ⟨_, _, _, _, sm⟩ := hP
        exact .of (sm _ _ hx)
      · obtain ⟨y6, y11, y12, rfl, sm⟩ := hP
        obtain ⟨dx, ed, hdx⟩ := Paired.at hpr ex
        obtain ⟨⟨k, ps, due, rfl, er⟩, _⟩ := gg dx (List.mem_of_getElem? ed)
        obtain ⟨t, v1, v2, v3, rfl, ht, h1, h2, h3⟩ := tup3_of (hdx.same sm)
        cases h1
        cases h3
        refine ⟨t, _, rfl, .of ht, rfl, _, _, rfl, _, _, rfl, _, _, rfl, rfl, ?_⟩
        exact ⟨_, rfl, _, rfl, k, v2, ps, due, rfl, h2, er, fun H11 s11 => ⟨_, rfl, rfl, _, rfl, iteN (by rw [decide_eq_true rfl]; rfl) ⟨_, _, _, rfl, sm.trans s11⟩⟩⟩
      obtain ⟨y6, y11, y12, rfl, sm⟩ := hP
      refine ⟨_, rfl, rA, .lst l, rfl, rr.same sm, k1, k2, k3, _, rfl, rfl, _, rfl, iteN (by rw [decide_eq_true rfl]; rfl) ?_⟩
      exact ⟨_, _, _, _, _, _, _, _, _, _, _, _, rfl, (z8.same sT).same sm⟩
end
end UP

set_option Elab.async false
set_option linter.all false
set_option maxRecDepth 100000
set_option maxHeartbeats 4000000
namespace UP
open PySem PySem.Spec PyProof.Rows L2
section
variable {K : PySem.W.Frag} {h : Heap} {mg : Str → Option Value}
theorem df_mk {x : Str} {st : Stmt} {f : Addr} {od an : Option Addr} {sl : Array (Option Value)} {oc kV dc pm cd ct : Value} (X : K.In h) (G : h.Ns mainGlobals mg) (a : PySem.W.nsIn K mainGlobals x = some (some (.ref f)))
    (l : K.lookup f = some ⟨oc, od, .func (PySem.W.fnOf x x (defArgs st) (defBody st) (defScope st) .none kV dc pm an cd ct), sl⟩) (c : PySem.W.codeIn K cd x = true) (k : PySem.W.keepIn K (.ref f) = true) : Df K mg x st :=
  ⟨f, _, PySem.W.mg_of X G a, fun_mk l c k⟩
theorem dfd_mk {x : Str} {st : Stmt} {f T : Addr} {od an od2 : Option Addr} {sl sl2 : Array (Option Value)} {n2 : Nat} {oc kV dc pm cd ct oc2 : Value} (X : K.In h) (G : h.Ns mainGlobals mg) (a : PySem.W.nsIn K mainGlobals x = some (some (.ref f)))
    (l : K.lookup f = some ⟨oc, od, .func (PySem.W.fnOf x x (defArgs st) (defBody st) (defScope st) (.ref T) kV dc pm an cd ct), sl⟩) (t : K.lookup T = some ⟨oc2, od2, .seq #[.none] n2, sl2⟩) (c : PySem.W.codeIn K cd x = true) (k : PySem.W.keepIn K (.ref f) = true) : DfD K mg x st [.non] :=
  ⟨f, _, PySem.W.mg_of X G a, ⟨⟨oc, od, _, kV, dc, pm, an, cd, ct, sl, rfl, l, c, .inr ⟨(by intro z; cases z), T, _, [.none], n2, rfl, t, rfl, .cons rfl .nil⟩, .inl rfl⟩, k⟩⟩
theorem cst_mk {x : Str} {i : Int} {t : Tok} (X : K.In h) (G : h.Ns mainGlobals mg) (a : PySem.W.nsIn K mainGlobals x = some (some (.int i t))) : ∃ t, mg x = some (.int i t) := ⟨t, PySem.W.mg_of X G a⟩
end
/-! ### the classes -/
def CA (mg : Str → Option Value) (n : Str) : Addr := match mg n with
  | some (.ref C) => C
  | _ => 0
theorem ca_of {mg : Str → Option Value} {n : Str} {C : Addr} (h : mg n = some (.ref C)) : CA mg n = C := by
  unfold CA
  rw [h]
def P2 (K : PySem.W.Frag) (mg : Str → Option Value) (nm n : Str) (r : Bool) : Prop := ∃ D C, mg nm = some (.ref D) ∧ mg n = some (.ref C) ∧ PySem.W.kitOne K (.ref D) (.ref C) = some r
def P1 (K : PySem.W.Frag) (mg : Str → Option Value) (nm : Str) : Prop := ∃ D B, mg nm = some (.ref D) ∧ mg "PairError" = some (.ref B) ∧ Ex K mg nm D ∧ ExcC K D ∧ PySem.W.exmOne K (.ref D) (.ref B) = some true ∧ PySem.W.kitOne K (.ref D) (.ref B) = some true ∧ PySem.W.kitOne K (.ref D) (.type "ValueError") = some true
section
variable {K : PySem.W.Frag} {h : Heap} {mg : Str → Option Value}
theorem p2_mk {nm n : Str} {r : Bool} {D C : Addr} (X : K.In h) (G : h.Ns mainGlobals mg) (a : PySem.W.nsIn K mainGlobals nm = some (some (.ref D))) (b : PySem.W.nsIn K mainGlobals n = some (some (.ref C))) (k : PySem.W.kitOne K (.ref D) (.ref C) = some r) : P2 K mg nm n r := ⟨D, C, PySem.W.mg_of X G a, PySem.W.mg_of X G b, k⟩
theorem p1_mk {nm : Str} {D B : Addr} (X : K.In h) (G : h.Ns mainGlobals mg) (a : PySem.W.nsIn K mainGlobals nm = some (some (.ref D))) (b : PySem.W.nsIn K mainGlobals "PairError" = some (some (.ref B)))
    (x : PySem.W.excIn K D [.type "ValueError", .type "Exception", .type "BaseException", .type "object"] "ValueError.__new__" = true) (k : PySem.W.keepIn K (.ref D) = true) (bs : PySem.W.subIn K (.ref D) (.type "BaseException") = some true) (t : PySem.W.typeIn K (.ref D) = some (.type "type"))
    (e1 : PySem.W.findIn K (.ref D) "__getattribute__" = some (some (.builtin "BaseException.__getattribute__"))) (e2 : PySem.W.findIn K (.ref D) "__getattr__" = some none) (e3 : PySem.W.hasDictIn K D = true) (e4 : PySem.W.findIn K (.ref D) "__class__" = some (some (.builtin "object.__class__")))
    (e5 : PySem.W.specialIn K (.builtin "object.__class__") "__get__" = some (some (.builtin "getset_descriptor.__get__"))) (e6 : PySem.W.takesIn K (.builtin "object.__class__") = some true) (e7 : PySem.W.mroIn K D (.type "object") = some true)
    (m : PySem.W.exmOne K (.ref D) (.ref B) = some true) (k1 : PySem.W.kitOne K (.ref D) (.ref B) = some true) (k2 : PySem.W.kitOne K (.ref D) (.type "ValueError") = some true) : P1 K mg nm :=
  ⟨D, B, PySem.W.mg_of X G a, PySem.W.mg_of X G b, ⟨PySem.W.mg_of X G a, x, k, bs, t⟩, ⟨e1, e2, bs, e3, e4, e5, e6, e7⟩, m, k1, k2⟩
theorem clsF_of {nm : Str} (h : P1 K mg nm) (k : ∀ n, n ∈ six ++ (oddA ++ oddB) → P2 K mg nm n (decide (n = nm))) : ClsF K (CA mg) nm ∧ Ex K mg nm (CA mg nm) := by
  obtain ⟨D, B, g, gb, ex, ec, m, k1, k2⟩ := h
  have eD := ca_of g
  have eB := ca_of gb
  refine ⟨⟨by rw [eD]; exact ec, by rw [eD, eB]; exact m, fun n hn => ?_, by rw [eD, eB]; exact k1, by rw [eD]; exact k2⟩, by rw [eD]; exact ex⟩
  obtain ⟨D', C, g', gc, kk⟩ := k n hn
  rw [g] at g'
  cases g'
  rw [eD, ca_of gc]
  exact kk
def P0 (K : PySem.W.Frag) (mg : Str → Option Value) (nm : Str) : Prop := ∃ D B, mg nm = some (.ref D) ∧ mg "PairError" = some (.ref B) ∧ ExcC K D ∧ PySem.W.exmOne K (.ref D) (.ref B) = some true ∧ PySem.W.kitOne K (.ref D) (.ref B) = some true ∧ PySem.W.kitOne K (.ref D) (.type "ValueError") = some true
theorem p0_mk {nm : Str} {D B : Addr} (X : K.In h) (G : h.Ns mainGlobals mg) (a : PySem.W.nsIn K mainGlobals nm = some (some (.ref D))) (b : PySem.W.nsIn K mainGlobals "PairError" = some (some (.ref B)))
    (bs : PySem.W.subIn K (.ref D) (.type "BaseException") = some true)
    (e1 : PySem.W.findIn K (.ref D) "__getattribute__" = some (some (.builtin "BaseException.__getattribute__"))) (e2 : PySem.W.findIn K (.ref D) "__getattr__" = some none) (e3 : PySem.W.hasDictIn K D = true) (e4 : PySem.W.findIn K (.ref D) "__class__" = some (some (.builtin "object.__class__")))
    (e5 : PySem.W.specialIn K (.builtin "object.__class__") "__get__" = some (some (.builtin "getset_descriptor.__get__"))) (e6 : PySem.W.takesIn K (.builtin "object.__class__") = some true) (e7 : PySem.W.mroIn K D (.type "object") = some true)
    (m : PySem.W.exmOne K (.ref D) (.ref B) = some true) (k1 : PySem.W.kitOne K (.ref D) (.ref B) = some true) (k2 : PySem.W.kitOne K (.ref D) (.type "ValueError") = some true) : P0 K mg nm :=
  ⟨D, B, PySem.W.mg_of X G a, PySem.W.mg_of X G b, ⟨e1, e2, bs, e3, e4, e5, e6, e7⟩, m, k1, k2⟩
theorem clsF0_of {nm : Str} (h : P0 K mg nm) (k : ∀ n, n ∈ six ++ (oddA ++ oddB) → P2 K mg nm n (decide (n = nm))) : ClsF K (CA mg) nm := by
  obtain ⟨D, B, g, gb, ec, m, k1, k2⟩ := h
  have eD := ca_of g
  have eB := ca_of gb
  refine ⟨by rw [eD]; exact ec, by rw [eD, eB]; exact m, fun n hn => ?_, by rw [eD, eB]; exact k1, by rw [eD]; exact k2⟩
  obtain ⟨D', C, g', gc, kk⟩ := k n hn
  rw [g] at g'
  cases g'
  rw [eD, ca_of gc]
  exact kk
theorem own_Impossible_mk {C fI N : Addr} {nm q : Str} {bs bm sub : List Value} {sn : List Str} {ab : Bool} {col : Option Bool} {dd : Option Addr} {k0 k1 k2 k3 k5 : Option Value} {od an : Option Addr} {sl : Array (Option Value)} {oc kV dc pm cd ct : Value} (X : K.In h) (G : h.Ns mainGlobals mg) (a : PySem.W.nsIn K mainGlobals "Impossible" = some (some (.ref C)))
    (l : K.lookup C = some (excClassObj nm q C N bs bm true sn sub ab col dd k0 k1 k2 k3 k5 "ValueError.__new__")) (r : PySem.HandSPX.refsVE bm = true) (sa : PySem.W.findIn K (.ref C) "__setattr__" = some (some (.builtin "object.__setattr__"))) (xc : PySem.W.subIn K (.ref C) (.type "BaseException") = some true) (ty : PySem.W.typeIn K (.ref C) = some (.type "type")) (kc : PySem.W.keepIn K (.ref C) = true)
    (n : PySem.W.findIn K (.ref C) "reason" = some none) (ic : PySem.W.findIn K (.ref C) "__init__" = some (some (.ref fI))) (ti : PySem.W.typeIn K (.ref fI) = some (.type "function")) (fl : K.lookup fI = some ⟨oc, od, .func (PySem.W.fnOf "__init__" "Impossible.__init__" (defArgs s_reason) (defBody s_reason) (defScope s_reason) .none kV dc pm an cd ct), sl⟩) (fc : PySem.W.codeIn K cd "Impossible.__init__" = true) (fk : PySem.W.keepIn K (.ref fI) = true) : ∃ C, ImpF K mg C :=
  ⟨C, PySem.W.mg_of X G a, ⟨⟨nm, q, N, bs, bm, sn, sub, ab, col, dd, k0, k1, k2, k3, k5, l, r⟩, sa, xc, ty, kc⟩, n, fI, _, ic, ti, fun_mk fl fc fk⟩
theorem cmg_of {nm : Str} (h : P1 K mg nm) (k : ∀ n, n ∈ six ++ (oddA ++ oddB) → P2 K mg nm n (decide (n = nm))) : Cmg mg (CA mg) := by
  refine ⟨fun n hn => ?_⟩
  have hn : n ∈ (six ++ (oddA ++ oddB)) ∨ n = "PairError" := by
    rcases List.mem_append.mp hn with z | z
    · exact .inl (List.mem_append.mpr (.inl z))
    · rcases List.mem_append.mp z with z | z
      · exact .inl (List.mem_append.mpr (.inr (List.mem_append.mpr (.inl z))))
      · rcases List.mem_append.mp z with z | z
        · exact .inl (List.mem_append.mpr (.inr (List.mem_append.mpr (.inr z))))
        · exact .inr (List.mem_singleton.mp z)
  rcases hn with z | z
  · obtain ⟨D, C, _, gc, _⟩ := k n z
    rw [ca_of gc]
    exact gc
  · obtain ⟨D, B, _, gb, _⟩ := h
    rw [z, ca_of gb]
    exact gb
end
/-- all that the top has written -/
structure Top (K : PySem.W.Frag) (mg : Str → Option Value) : Prop where
  T : Tx mg
  p_InvalidCounts : P1 K mg "InvalidCounts"
  k_InvalidCounts_InvalidSequence : P2 K mg "InvalidCounts" "InvalidSequence" false
  k_InvalidCounts_InvalidState : P2 K mg "InvalidCounts" "InvalidState" false
  k_InvalidCounts_InvalidPosition : P2 K mg "InvalidCounts" "InvalidPosition" false
  k_InvalidCounts_InvalidNumber : P2 K mg "InvalidCounts" "InvalidNumber" false
  k_InvalidCounts_InvalidItems : P2 K mg "InvalidCounts" "InvalidItems" false
  k_InvalidCounts_TooLong : P2 K mg "InvalidCounts" "TooLong" false
  k_InvalidCounts_Contradiction : P2 K mg "InvalidCounts" "Contradiction" false
  k_InvalidCounts_Impossible : P2 K mg "InvalidCounts" "Impossible" false
  k_InvalidCounts_InvalidCommand : P2 K mg "InvalidCounts" "InvalidCommand" false
  k_InvalidCounts_InvalidCounts : P2 K mg "InvalidCounts" "InvalidCounts" true
  k_InvalidCounts_InvalidEffects : P2 K mg "InvalidCounts" "InvalidEffects" false
  k_InvalidCounts_InvalidKind : P2 K mg "InvalidCounts" "InvalidKind" false
  k_InvalidCounts_InvalidKinds : P2 K mg "InvalidCounts" "InvalidKinds" false
  k_InvalidCounts_InvalidRecord : P2 K mg "InvalidCounts" "InvalidRecord" false
  k_InvalidCounts_InvalidText : P2 K mg "InvalidCounts" "InvalidText" false
  k_InvalidCounts_NothingToUndo : P2 K mg "InvalidCounts" "NothingToUndo" false
  k_InvalidCounts_SameEffect : P2 K mg "InvalidCounts" "SameEffect" false
  k_InvalidCounts_TooMany : P2 K mg "InvalidCounts" "TooMany" false
  p_InvalidState : P1 K mg "InvalidState"
  k_InvalidState_InvalidSequence : P2 K mg "InvalidState" "InvalidSequence" false
  k_InvalidState_InvalidState : P2 K mg "InvalidState" "InvalidState" true
  k_InvalidState_InvalidPosition : P2 K mg "InvalidState" "InvalidPosition" false
  k_InvalidState_InvalidNumber : P2 K mg "InvalidState" "InvalidNumber" false
  k_InvalidState_InvalidItems : P2 K mg "InvalidState" "InvalidItems" false
  k_InvalidState_TooLong : P2 K mg "InvalidState" "TooLong" false
  k_InvalidState_Contradiction : P2 K mg "InvalidState" "Contradiction" false
  k_InvalidState_Impossible : P2 K mg "InvalidState" "Impossible" false
  k_InvalidState_InvalidCommand : P2 K mg "InvalidState" "InvalidCommand" false
  k_InvalidState_InvalidCounts : P2 K mg "InvalidState" "InvalidCounts" false
  k_InvalidState_InvalidEffects : P2 K mg "InvalidState" "InvalidEffects" false
  k_InvalidState_InvalidKind : P2 K mg "InvalidState" "InvalidKind" false
  k_InvalidState_InvalidKinds : P2 K mg "InvalidState" "InvalidKinds" false
  k_InvalidState_InvalidRecord : P2 K mg "InvalidState" "InvalidRecord" false
  k_InvalidState_InvalidText : P2 K mg "InvalidState" "InvalidText" false
  k_InvalidState_NothingToUndo : P2 K mg "InvalidState" "NothingToUndo" false
  k_InvalidState_SameEffect : P2 K mg "InvalidState" "SameEffect" false
  k_InvalidState_TooMany : P2 K mg "InvalidState" "TooMany" false
  p_InvalidKind : P1 K mg "InvalidKind"
  k_InvalidKind_InvalidSequence : P2 K mg "InvalidKind" "InvalidSequence" false
  k_InvalidKind_InvalidState : P2 K mg "InvalidKind" "InvalidState" false
  k_InvalidKind_InvalidPosition : P2 K mg "InvalidKind" "InvalidPosition" false
  k_InvalidKind_InvalidNumber : P2 K mg "InvalidKind" "InvalidNumber" false
  k_InvalidKind_InvalidItems : P2 K mg "InvalidKind" "InvalidItems" false
  k_InvalidKind_TooLong : P2 K mg "InvalidKind" "TooLong" false
  k_InvalidKind_Contradiction : P2 K mg "InvalidKind" "Contradiction" false
  k_InvalidKind_Impossible : P2 K mg "InvalidKind" "Impossible" false
  k_InvalidKind_InvalidCommand : P2 K mg "InvalidKind" "InvalidCommand" false
  k_InvalidKind_InvalidCounts : P2 K mg "InvalidKind" "InvalidCounts" false
  k_InvalidKind_InvalidEffects : P2 K mg "InvalidKind" "InvalidEffects" false
  k_InvalidKind_InvalidKind : P2 K mg "InvalidKind" "InvalidKind" true
  k_InvalidKind_InvalidKinds : P2 K mg "InvalidKind" "InvalidKinds" false
  k_InvalidKind_InvalidRecord : P2 K mg "InvalidKind" "InvalidRecord" false
  k_InvalidKind_InvalidText : P2 K mg "InvalidKind" "InvalidText" false
  k_InvalidKind_NothingToUndo : P2 K mg "InvalidKind" "NothingToUndo" false
  k_InvalidKind_SameEffect : P2 K mg "InvalidKind" "SameEffect" false
  k_InvalidKind_TooMany : P2 K mg "InvalidKind" "TooMany" false
  o_Impossible : P0 K mg "Impossible"
  i_Impossible : ∃ C, ImpF K mg C
  k_Impossible_InvalidSequence : P2 K mg "Impossible" "InvalidSequence" false
  k_Impossible_InvalidState : P2 K mg "Impossible" "InvalidState" false
  k_Impossible_InvalidPosition : P2 K mg "Impossible" "InvalidPosition" false
  k_Impossible_InvalidNumber : P2 K mg "Impossible" "InvalidNumber" false
  k_Impossible_InvalidItems : P2 K mg "Impossible" "InvalidItems" false
  k_Impossible_TooLong : P2 K mg "Impossible" "TooLong" false
  k_Impossible_Contradiction : P2 K mg "Impossible" "Contradiction" false
  k_Impossible_Impossible : P2 K mg "Impossible" "Impossible" true
  k_Impossible_InvalidCommand : P2 K mg "Impossible" "InvalidCommand" false
  k_Impossible_InvalidCounts : P2 K mg "Impossible" "InvalidCounts" false
  k_Impossible_InvalidEffects : P2 K mg "Impossible" "InvalidEffects" false
  k_Impossible_InvalidKind : P2 K mg "Impossible" "InvalidKind" false
  k_Impossible_InvalidKinds : P2 K mg "Impossible" "InvalidKinds" false
  k_Impossible_InvalidRecord : P2 K mg "Impossible" "InvalidRecord" false
  k_Impossible_InvalidText : P2 K mg "Impossible" "InvalidText" false
  k_Impossible_NothingToUndo : P2 K mg "Impossible" "NothingToUndo" false
  k_Impossible_SameEffect : P2 K mg "Impossible" "SameEffect" false
  k_Impossible_TooMany : P2 K mg "Impossible" "TooMany" false
  d_copied : Df K mg "copied" s_copied
  d_is_whole : Df K mg "is_whole" s_is_whole
  d_is_within : Df K mg "is_within" s_is_within
  d_is_listed : Df K mg "is_listed" s_is_listed
  d_is_couple : Df K mg "is_couple" s_is_couple
  d_is_kind : Df K mg "is_kind" s_is_kind
  d_is_run : Df K mg "is_run" s_is_run
  d_is_state : Df K mg "is_state" s_is_state
  d_check_kind : Df K mg "check_kind" s_check_kind
  d_checked_state : Df K mg "checked_state" s_checked_state
  d_length_of : Df K mg "length_of" s_length_of
  d_cut : Df K mg "cut" s_cut
  d_add_run : Df K mg "add_run" s_add_run
  d_waiting_number : Df K mg "waiting_number" s_waiting_number
  d_kind_of : Df K mg "kind_of" s_kind_of
  d_is_counts : Df K mg "is_counts" s_is_counts
  d_checked_counts : Df K mg "checked_counts" s_checked_counts
  d_counts_without : Df K mg "counts_without" s_counts_without
  d_majority_in : Df K mg "majority_in" s_majority_in
  d_reasons_in : Df K mg "reasons_in" s_reasons_in
  d_is_flat : Df K mg "is_flat" s_is_flat
  d_paired_runs : Df K mg "paired_runs" s_paired_runs
  d_range_in : Df K mg "range_in" s_range_in
  d_can_remain : Df K mg "can_remain" s_can_remain
  d_reason_against : Df K mg "reason_against" s_reason_against
  d_shows_against : Df K mg "shows_against" s_shows_against
  d_sequence_for : Df K mg "sequence_for" s_sequence_for
  d_remaining_range : Df K mg "remaining_range" s_remaining_range
  d_remaining_count : Df K mg "remaining_count" s_remaining_count
  d_law_reel : Df K mg "_law_reel" s_law_reel
  d_law_draw : Df K mg "_law_draw" s_law_draw
  d_law_kind_of : Df K mg "_law_kind_of" s_law_kind_of
  d_law_bad : Df K mg "_law_bad" s_law_bad
  d_law_bad_counts : Df K mg "_law_bad_counts" s_law_bad_counts
  d_law_error : Df K mg "_law_error" s_law_error
theorem Top.law {P : Program} {w : World} {K : PySem.W.Frag} {mg : Str → Option Value} (Y : Top K mg) {f : Addr} {fd : FuncData} (F : Fun K "law" "law" s_law f fd) (base : Heap) : FnC P w K mg base f fd ["script"] (sp_law K) := by
  have T := Y.T
  have q_InvalidCounts : ∀ n, n ∈ six ++ (oddA ++ oddB) → P2 K mg "InvalidCounts" n (decide (n = "InvalidCounts")) := by
    intro n hn
    simp only [six, oddA, oddB, List.cons_append, List.nil_append, List.mem_cons, List.not_mem_nil, or_false] at hn
    rcases hn with rfl | rfl | rfl | rfl | rfl | rfl | rfl | rfl | rfl | rfl | rfl | rfl | rfl | rfl | rfl | rfl | rfl | rfl
    · exact Y.k_InvalidCounts_InvalidSequence
    · exact Y.k_InvalidCounts_InvalidState
    · exact Y.k_InvalidCounts_InvalidPosition
    · exact Y.k_InvalidCounts_InvalidNumber
    · exact Y.k_InvalidCounts_InvalidItems
    · exact Y.k_InvalidCounts_TooLong
    · exact Y.k_InvalidCounts_Contradiction
    · exact Y.k_InvalidCounts_Impossible
    · exact Y.k_InvalidCounts_InvalidCommand
    · exact Y.k_InvalidCounts_InvalidCounts
    · exact Y.k_InvalidCounts_InvalidEffects
    · exact Y.k_InvalidCounts_InvalidKind
    · exact Y.k_InvalidCounts_InvalidKinds
    · exact Y.k_InvalidCounts_InvalidRecord
    · exact Y.k_InvalidCounts_InvalidText
    · exact Y.k_InvalidCounts_NothingToUndo
    · exact Y.k_InvalidCounts_SameEffect
    · exact Y.k_InvalidCounts_TooMany
  obtain ⟨F_InvalidCounts, X_InvalidCounts⟩ := clsF_of Y.p_InvalidCounts q_InvalidCounts
  have q_InvalidState : ∀ n, n ∈ six ++ (oddA ++ oddB) → P2 K mg "InvalidState" n (decide (n = "InvalidState")) := by
    intro n hn
    simp only [six, oddA, oddB, List.cons_append, List.nil_append, List.mem_cons, List.not_mem_nil, or_false] at hn
    rcases hn with rfl | rfl | rfl | rfl | rfl | rfl | rfl | rfl | rfl | rfl | rfl | rfl | rfl | rfl | rfl | rfl | rfl | rfl
    · exact Y.k_InvalidState_InvalidSequence
    · exact Y.k_InvalidState_InvalidState
    · exact Y.k_InvalidState_InvalidPosition
    · exact Y.k_InvalidState_InvalidNumber
    · exact Y.k_InvalidState_InvalidItems
    · exact Y.k_InvalidState_TooLong
    · exact Y.k_InvalidState_Contradiction
    · exact Y.k_InvalidState_Impossible
    · exact Y.k_InvalidState_InvalidCommand
    · exact Y.k_InvalidState_InvalidCounts
    · exact Y.k_InvalidState_InvalidEffects
    · exact Y.k_InvalidState_InvalidKind
    · exact Y.k_InvalidState_InvalidKinds
    · exact Y.k_InvalidState_InvalidRecord
    · exact Y.k_InvalidState_InvalidText
    · exact Y.k_InvalidState_NothingToUndo
    · exact Y.k_InvalidState_SameEffect
    · exact Y.k_InvalidState_TooMany
  obtain ⟨F_InvalidState, X_InvalidState⟩ := clsF_of Y.p_InvalidState q_InvalidState
  have q_InvalidKind : ∀ n, n ∈ six ++ (oddA ++ oddB) → P2 K mg "InvalidKind" n (decide (n = "InvalidKind")) := by
    intro n hn
    simp only [six, oddA, oddB, List.cons_append, List.nil_append, List.mem_cons, List.not_mem_nil, or_false] at hn
    rcases hn with rfl | rfl | rfl | rfl | rfl | rfl | rfl | rfl | rfl | rfl | rfl | rfl | rfl | rfl | rfl | rfl | rfl | rfl
    · exact Y.k_InvalidKind_InvalidSequence
    · exact Y.k_InvalidKind_InvalidState
    · exact Y.k_InvalidKind_InvalidPosition
    · exact Y.k_InvalidKind_InvalidNumber
    · exact Y.k_InvalidKind_InvalidItems
    · exact Y.k_InvalidKind_TooLong
    · exact Y.k_InvalidKind_Contradiction
    · exact Y.k_InvalidKind_Impossible
    · exact Y.k_InvalidKind_InvalidCommand
    · exact Y.k_InvalidKind_InvalidCounts
    · exact Y.k_InvalidKind_InvalidEffects
    · exact Y.k_InvalidKind_InvalidKind
    · exact Y.k_InvalidKind_InvalidKinds
    · exact Y.k_InvalidKind_InvalidRecord
    · exact Y.k_InvalidKind_InvalidText
    · exact Y.k_InvalidKind_NothingToUndo
    · exact Y.k_InvalidKind_SameEffect
    · exact Y.k_InvalidKind_TooMany
  obtain ⟨F_InvalidKind, X_InvalidKind⟩ := clsF_of Y.p_InvalidKind q_InvalidKind
  have q_Impossible : ∀ n, n ∈ six ++ (oddA ++ oddB) → P2 K mg "Impossible" n (decide (n = "Impossible")) := by
    intro n hn
    simp only [six, oddA, oddB, List.cons_append, List.nil_append, List.mem_cons, List.not_mem_nil, or_false] at hn
    rcases hn with rfl | rfl | rfl | rfl | rfl | rfl | rfl | rfl | rfl | rfl | rfl | rfl | rfl | rfl | rfl | rfl | rfl | rfl
    · exact Y.k_Impossible_InvalidSequence
    · exact Y.k_Impossible_InvalidState
    · exact Y.k_Impossible_InvalidPosition
    · exact Y.k_Impossible_InvalidNumber
    · exact Y.k_Impossible_InvalidItems
    · exact Y.k_Impossible_TooLong
    · exact Y.k_Impossible_Contradiction
    · exact Y.k_Impossible_Impossible
    · exact Y.k_Impossible_InvalidCommand
    · exact Y.k_Impossible_InvalidCounts
    · exact Y.k_Impossible_InvalidEffects
    · exact Y.k_Impossible_InvalidKind
    · exact Y.k_Impossible_InvalidKinds
    · exact Y.k_Impossible_InvalidRecord
    · exact Y.k_Impossible_InvalidText
    · exact Y.k_Impossible_NothingToUndo
    · exact Y.k_Impossible_SameEffect
    · exact Y.k_Impossible_TooMany
  have F_Impossible := clsF0_of Y.o_Impossible q_Impossible
  have I_Impossible : ImpF K mg (CA mg "Impossible") := by
    obtain ⟨C, z⟩ := Y.i_Impossible
    rw [ca_of z.g]
    exact z
  have CM := cmg_of Y.p_InvalidCounts q_InvalidCounts
  have g_is_whole := ok_is_whole (P := P) (w := w) (base := base) Y.d_is_whole T
  have g_is_within := ok_is_within (P := P) (w := w) (base := base) Y.d_is_within g_is_whole
  have g_is_listed := ok_is_listed (P := P) (w := w) (base := base) Y.d_is_listed T
  have g_is_couple := ok_is_couple (P := P) (w := w) (base := base) Y.d_is_couple T
  have g_is_kind := ok_is_kind (P := P) (w := w) (base := base) Y.d_is_kind T
  have g_is_run := ok_is_run (P := P) (w := w) (base := base) Y.d_is_run T g_is_couple g_is_kind g_is_within
  have g_is_state := ok_is_state (P := P) (w := w) (base := base) Y.d_is_state T g_is_couple g_is_kind g_is_whole
  have g_checked_state := ok_checked_state (P := P) (w := w) (base := base) Y.d_checked_state T X_InvalidState g_is_state
  have g_length_of := ok_length_of (P := P) (w := w) (base := base) Y.d_length_of T
  have g_cut := ok_cut (P := P) (w := w) (base := base) Y.d_cut T
  have g_waiting_number := ok_waiting_number (P := P) (w := w) (base := base) Y.d_waiting_number
  have g_law_draw := ok_law_draw (P := P) (w := w) (base := base) Y.d_law_draw T
  have g_law_reel := ok_law_reel (P := P) (w := w) (base := base) Y.d_law_reel T
  have g_kind_of := ok_kind_of (P := P) (w := w) (base := base) Y.d_kind_of
  have g_counts_without := ok_counts_without (P := P) (w := w) (base := base) Y.d_counts_without g_kind_of g_waiting_number
  have g_majority_in := ok_majority_in (P := P) (w := w) (base := base) Y.d_majority_in g_length_of
  have g_reasons_in := ok_reasons_in (P := P) (w := w) (base := base) Y.d_reasons_in T g_counts_without g_length_of g_kind_of g_waiting_number g_majority_in
  have g_range_in := ok_range_in (P := P) (w := w) (base := base) Y.d_range_in T g_length_of
  have g_is_counts := ok_is_counts (P := P) (w := w) (base := base) Y.d_is_counts T g_is_listed g_is_run
  have g_checked_counts := ok_checked_counts (P := P) (w := w) (base := base) Y.d_checked_counts T X_InvalidCounts g_is_counts
  have g_check_kind := ok_check_kind (P := P) (w := w) (base := base) Y.d_check_kind X_InvalidKind g_is_kind
  have g_reason_against := ok_reason_against (P := P) (w := w) (base := base) Y.d_reason_against T g_checked_counts g_checked_state g_reasons_in
  have g_can_remain := ok_can_remain (P := P) (w := w) (base := base) Y.d_can_remain g_reason_against
  have g_is_flat := ok_is_flat (P := P) (w := w) (base := base) Y.d_is_flat T g_is_listed g_is_whole
  have g_shows_against := ok_shows_against (P := P) (w := w) (base := base) Y.d_shows_against T g_checked_counts g_checked_state g_reasons_in g_is_flat
  have g_remaining_range := ok_remaining_range (P := P) (w := w) (base := base) Y.d_remaining_range g_checked_counts g_check_kind g_range_in
  have g_remaining_count := ok_remaining_count (P := P) (w := w) (base := base) Y.d_remaining_count T g_checked_counts g_reasons_in g_range_in
  have g_add_run := ok_add_run (P := P) (w := w) (base := base) Y.d_add_run
  have g_paired_runs := ok_paired_runs (P := P) (w := w) (base := base) Y.d_paired_runs T g_length_of g_cut g_add_run
  have g_copied := ok_copied (P := P) (w := w) (base := base) Y.d_copied T
  have g_sequence_for := ok_sequence_for (P := P) (w := w) (base := base) Y.d_sequence_for T I_Impossible g_copied g_checked_counts g_checked_state g_reasons_in g_counts_without g_paired_runs g_add_run
  have g_law_kind_of := ok_law_kind_of (P := P) (w := w) (base := base) Y.d_law_kind_of T CM
  have g_law_bad := ok_law_bad (P := P) (w := w) (base := base) Y.d_law_bad T g_law_draw
  have g_law_bad_counts := ok_law_bad_counts (P := P) (w := w) (base := base) Y.d_law_bad_counts T g_law_draw
  have g_law_error := ok_law_error (P := P) (w := w) (base := base) Y.d_law_error T CM F_InvalidCounts F_InvalidState F_InvalidKind F_Impossible g_law_kind_of g_can_remain g_reason_against g_shows_against g_sequence_for g_remaining_range g_remaining_count
  exact fn_law F T g_law_reel g_law_draw g_law_bad g_law_bad_counts g_law_error
theorem all_mk {P : Program} {w : World} {K : PySem.W.Frag} {h : Heap} {mg : Str → Option Value} {fa f : Addr} {od an : Option Addr} {sl : Array (Option Value)} {oc kV dc pm cd ct : Value} (X : K.In h) (G : h.Ns mainGlobals mg) (hfa : mg "law" = some (.ref fa)) (a : PySem.W.nsIn K mainGlobals "law" = some (some (.ref f)))
    (l : K.lookup f = some ⟨oc, od, .func (PySem.W.fnOf "law" "law" (defArgs s_law) (defBody s_law) (defScope s_law) .none kV dc pm an cd ct), sl⟩) (c : PySem.W.codeIn K cd "law" = true) (k : PySem.W.keepIn K (.ref f) = true) (Y : Top K mg) :
    ∃ fd : FuncData, (∀ (s : Shared) (v : Value), BindsTo s fd ⟨[v], []⟩ [("script", v)]) ∧ ∀ base : Heap, K.In base → base.Ns mainGlobals mg → FnC P w K mg base fa fd ["script"] (sp_law K) := by
  have e := hfa.symm.trans (PySem.W.mg_of X G a)
  cases e
  exact ⟨_, fun s v => .of_eq rfl, fun base _ _ => Y.law (fun_mk (st := s_law) l c k) base⟩
end UP
open PySem PySem.W PyProof.Rows
set_option maxHeartbeats 0 in
theorem PySem.Challenge.cw_unlikepairs_k35_remains_errors_holds : PySem.Challenge.rw_unlikepairs_k35_remains_errors.Holds := by
  w_on; o_law; k_head; (case hw => w_witness2)
  k_fill
  refine UP.walkC (l := PySem.Challenge.rw_unlikepairs_k35_remains_errors) (n := 63) (x := "script") (sp := fun w => UP.sp_law _) rfl (by decide) rfl (fun w h Y => PySem.W.kIn_of Y) ?F (fun _ _ a ns hl hS => ⟨a, ns, rfl, hS, hl, fun _ => rfl⟩)
  case F =>
    intro w mg fa h KX G hmg
    refine' UP.all_mk KX G hmg ?a ?l ?c ?k ?Y
    (case a => k_is); (case l => k_is); (case c => k_is); (case k => k_is)
    case Y =>
      constructor
      · constructor
        · refine' PySem.W.mg_none_of KX G ?z; (case z => k_is)
        · refine' PySem.W.mg_none_of KX G ?z; (case z => k_is)
        · refine' PySem.W.mg_none_of KX G ?z; (case z => k_is)
        · refine' PySem.W.mg_none_of KX G ?z; (case z => k_is)
        · refine' PySem.W.mg_none_of KX G ?z; (case z => k_is)
        · refine' PySem.W.mg_none_of KX G ?z; (case z => k_is)
        · refine' PySem.W.mg_none_of KX G ?z; (case z => k_is)
        · refine' PySem.W.mg_none_of KX G ?z; (case z => k_is)
        · refine' PySem.W.mg_none_of KX G ?z; (case z => k_is)
        · refine' PySem.W.mg_none_of KX G ?z; (case z => k_is)
        · refine' PySem.W.mg_none_of KX G ?z; (case z => k_is)
        · refine' PySem.W.mg_none_of KX G ?z; (case z => k_is)
        · refine' PySem.W.mg_none_of KX G ?z; (case z => k_is)
        · refine' PySem.W.mg_none_of KX G ?z; (case z => k_is)
        · refine' PySem.W.mg_none_of KX G ?z; (case z => k_is)
        · refine' PySem.W.mg_none_of KX G ?z; (case z => k_is)
        · refine' PySem.W.mg_none_of KX G ?z; (case z => k_is)
        · refine' PySem.W.mg_none_of KX G ?z; (case z => k_is)
        · refine' PySem.W.mg_none_of KX G ?z; (case z => k_is)
        · refine' PySem.W.mg_none_of KX G ?z; (case z => k_is)
        · refine' PySem.W.mg_none_of KX G ?z; (case z => k_is)
        · refine' PySem.W.mg_none_of KX G ?z; (case z => k_is)
        · refine' UP.cst_mk KX G ?z; (case z => k_is)
        · refine' UP.cst_mk KX G ?z; (case z => k_is)
        · refine' UP.cst_mk KX G ?z; (case z => k_is)
      · refine' UP.p1_mk KX G ?a ?b ?x ?k ?bs ?t ?e1 ?e2 ?e3 ?e4 ?e5 ?e6 ?e7 ?m ?k1 ?k2; (case a => k_is); (case b => k_is); (case x => first | k_exc | k_is); (case k => k_is); (case bs => k_is); (case t => k_is); (case e1 => k_is); (case e2 => k_is); (case e3 => k_is); (case e4 => k_is); (case e5 => k_is); (case e6 => k_is); (case e7 => k_is); (case m => kts_exm); (case k1 => kit_is); (case k2 => kit_is)
      · refine' UP.p2_mk KX G ?a ?b ?k; (case a => k_is); (case b => k_is); (case k => kit_is)
      · refine' UP.p2_mk KX G ?a ?b ?k; (case a => k_is); (case b => k_is); (case k => kit_is)
      · refine' UP.p2_mk KX G ?a ?b ?k; (case a => k_is); (case b => k_is); (case k => kit_is)
      · refine' UP.p2_mk KX G ?a ?b ?k; (case a => k_is); (case b => k_is); (case k => kit_is)
      · refine' UP.p2_mk KX G ?a ?b ?k; (case a => k_is); (case b => k_is); (case k => kit_is)
      · refine' UP.p2_mk KX G ?a ?b ?k; (case a => k_is); (case b => k_is); (case k => kit_is)
      · refine' UP.p2_mk KX G ?a ?b ?k; (case a => k_is); (case b => k_is); (case k => kit_is)
      · refine' UP.p2_mk KX G ?a ?b ?k; (case a => k_is); (case b => k_is); (case k => kit_is)
      · refine' UP.p2_mk KX G ?a ?b ?k; (case a => k_is); (case b => k_is); (case k => kit_is)
      · refine' UP.p2_mk KX G ?a ?b ?k; (case a => k_is); (case b => k_is); (case k => kit_is)
      · refine' UP.p2_mk KX G ?a ?b ?k; (case a => k_is); (case b => k_is); (case k => kit_is)
      · refine' UP.p2_mk KX G ?a ?b ?k; (case a => k_is); (case b => k_is); (case k => kit_is)
      · refine' UP.p2_mk KX G ?a ?b ?k; (case a => k_is); (case b => k_is); (case k => kit_is)
      · refine' UP.p2_mk KX G ?a ?b ?k; (case a => k_is); (case b => k_is); (case k => kit_is)
      · refine' UP.p2_mk KX G ?a ?b ?k; (case a => k_is); (case b => k_is); (case k => kit_is)
      · refine' UP.p2_mk KX G ?a ?b ?k; (case a => k_is); (case b => k_is); (case k => kit_is)
      · refine' UP.p2_mk KX G ?a ?b ?k; (case a => k_is); (case b => k_is); (case k => kit_is)
      · refine' UP.p2_mk KX G ?a ?b ?k; (case a => k_is); (case b => k_is); (case k => kit_is)
      · refine' UP.p1_mk KX G ?a ?b ?x ?k ?bs ?t ?e1 ?e2 ?e3 ?e4 ?e5 ?e6 ?e7 ?m ?k1 ?k2; (case a => k_is); (case b => k_is); (case x => first | k_exc | k_is); (case k => k_is); (case bs => k_is); (case t => k_is); (case e1 => k_is); (case e2 => k_is); (case e3 => k_is); (case e4 => k_is); (case e5 => k_is); (case e6 => k_is); (case e7 => k_is); (case m => kts_exm); (case k1 => kit_is); (case k2 => kit_is)
      · refine' UP.p2_mk KX G ?a ?b ?k; (case a => k_is); (case b => k_is); (case k => kit_is)
      · refine' UP.p2_mk KX G ?a ?b ?k; (case a => k_is); (case b => k_is); (case k => kit_is)
      · refine' UP.p2_mk KX G ?a ?b ?k; (case a => k_is); (case b => k_is); (case k => kit_is)
      · refine' UP.p2_mk KX G ?a ?b ?k; (case a => k_is); (case b => k_is); (case k => kit_is)
      · refine' UP.p2_mk KX G ?a ?b ?k; (case a => k_is); (case b => k_is); (case k => kit_is)
      · refine' UP.p2_mk KX G ?a ?b ?k; (case a => k_is); (case b => k_is); (case k => kit_is)
      · refine' UP.p2_mk KX G ?a ?b ?k; (case a => k_is); (case b => k_is); (case k => kit_is)
      · refine' UP.p2_mk KX G ?a ?b ?k; (case a => k_is); (case b => k_is); (case k => kit_is)
      · refine' UP.p2_mk KX G ?a ?b ?k; (case a => k_is); (case b => k_is); (case k => kit_is)
      · refine' UP.p2_mk KX G ?a ?b ?k; (case a => k_is); (case b => k_is); (case k => kit_is)
      · refine' UP.p2_mk KX G ?a ?b ?k; (case a => k_is); (case b => k_is); (case k => kit_is)
      · refine' UP.p2_mk KX G ?a ?b ?k; (case a => k_is); (case b => k_is); (case k => kit_is)
      · refine' UP.p2_mk KX G ?a ?b ?k; (case a => k_is); (case b => k_is); (case k => kit_is)
      · refine' UP.p2_mk KX G ?a ?b ?k; (case a => k_is); (case b => k_is); (case k => kit_is)
      · refine' UP.p2_mk KX G ?a ?b ?k; (case a => k_is); (case b => k_is); (case k => kit_is)
      · refine' UP.p2_mk KX G ?a ?b ?k; (case a => k_is); (case b => k_is); (case k => kit_is)
      · refine' UP.p2_mk KX G ?a ?b ?k; (case a => k_is); (case b => k_is); (case k => kit_is)
      · refine' UP.p2_mk KX G ?a ?b ?k; (case a => k_is); (case b => k_is); (case k => kit_is)
      · refine' UP.p1_mk KX G ?a ?b ?x ?k ?bs ?t ?e1 ?e2 ?e3 ?e4 ?e5 ?e6 ?e7 ?m ?k1 ?k2; (case a => k_is); (case b => k_is); (case x => first | k_exc | k_is); (case k => k_is); (case bs => k_is); (case t => k_is); (case e1 => k_is); (case e2 => k_is); (case e3 => k_is); (case e4 => k_is); (case e5 => k_is); (case e6 => k_is); (case e7 => k_is); (case m => kts_exm); (case k1 => kit_is); (case k2 => kit_is)
      · refine' UP.p2_mk KX G ?a ?b ?k; (case a => k_is); (case b => k_is); (case k => kit_is)
      · refine' UP.p2_mk KX G ?a ?b ?k; (case a => k_is); (case b => k_is); (case k => kit_is)
      · refine' UP.p2_mk KX G ?a ?b ?k; (case a => k_is); (case b => k_is); (case k => kit_is)
      · refine' UP.p2_mk KX G ?a ?b ?k; (case a => k_is); (case b => k_is); (case k => kit_is)
      · refine' UP.p2_mk KX G ?a ?b ?k; (case a => k_is); (case b => k_is); (case k => kit_is)
      · refine' UP.p2_mk KX G ?a ?b ?k; (case a => k_is); (case b => k_is); (case k => kit_is)
      · refine' UP.p2_mk KX G ?a ?b ?k; (case a => k_is); (case b => k_is); (case k => kit_is)
      · refine' UP.p2_mk KX G ?a ?b ?k; (case a => k_is); (case b => k_is); (case k => kit_is)
      · refine' UP.p2_mk KX G ?a ?b ?k; (case a => k_is); (case b => k_is); (case k => kit_is)
      · refine' UP.p2_mk KX G ?a ?b ?k; (case a => k_is); (case b => k_is); (case k => kit_is)
      · refine' UP.p2_mk KX G ?a ?b ?k; (case a => k_is); (case b => k_is); (case k => kit_is)
      · refine' UP.p2_mk KX G ?a ?b ?k; (case a => k_is); (case b => k_is); (case k => kit_is)
      · refine' UP.p2_mk KX G ?a ?b ?k; (case a => k_is); (case b => k_is); (case k => kit_is)
      · refine' UP.p2_mk KX G ?a ?b ?k; (case a => k_is); (case b => k_is); (case k => kit_is)
      · refine' UP.p2_mk KX G ?a ?b ?k; (case a => k_is); (case b => k_is); (case k => kit_is)
      · refine' UP.p2_mk KX G ?a ?b ?k; (case a => k_is); (case b => k_is); (case k => kit_is)
      · refine' UP.p2_mk KX G ?a ?b ?k; (case a => k_is); (case b => k_is); (case k => kit_is)
      · refine' UP.p2_mk KX G ?a ?b ?k; (case a => k_is); (case b => k_is); (case k => kit_is)
      · refine' UP.p0_mk KX G ?a ?b ?bs ?e1 ?e2 ?e3 ?e4 ?e5 ?e6 ?e7 ?m ?k1 ?k2; (case a => k_is); (case b => k_is); (case bs => k_is); (case e1 => k_is); (case e2 => k_is); (case e3 => k_is); (case e4 => k_is); (case e5 => k_is); (case e6 => k_is); (case e7 => k_is); (case m => kts_exm); (case k1 => kit_is); (case k2 => kit_is)
      · refine' UP.own_Impossible_mk KX G ?a ?l ?r ?sa ?xc ?ty ?kc ?n ?ic ?ti ?fl ?fc ?fk; (case a => k_is); (case l => k_is); (case r => decide); (case sa => k_is); (case xc => k_is); (case ty => k_is); (case kc => k_is); (case n => k_is); (case ic => k_is); (case ti => k_is); (case fl => k_is); (case fc => k_is); (case fk => k_is)
      · refine' UP.p2_mk KX G ?a ?b ?k; (case a => k_is); (case b => k_is); (case k => kit_is)
      · refine' UP.p2_mk KX G ?a ?b ?k; (case a => k_is); (case b => k_is); (case k => kit_is)
      · refine' UP.p2_mk KX G ?a ?b ?k; (case a => k_is); (case b => k_is); (case k => kit_is)
      · refine' UP.p2_mk KX G ?a ?b ?k; (case a => k_is); (case b => k_is); (case k => kit_is)
      · refine' UP.p2_mk KX G ?a ?b ?k; (case a => k_is); (case b => k_is); (case k => kit_is)
      · refine' UP.p2_mk KX G ?a ?b ?k; (case a => k_is); (case b => k_is); (case k => kit_is)
      · refine' UP.p2_mk KX G ?a ?b ?k; (case a => k_is); (case b => k_is); (case k => kit_is)
      · refine' UP.p2_mk KX G ?a ?b ?k; (case a => k_is); (case b => k_is); (case k => kit_is)
      · refine' UP.p2_mk KX G ?a ?b ?k; (case a => k_is); (case b => k_is); (case k => kit_is)
      · refine' UP.p2_mk KX G ?a ?b ?k; (case a => k_is); (case b => k_is); (case k => kit_is)
      · refine' UP.p2_mk KX G ?a ?b ?k; (case a => k_is); (case b => k_is); (case k => kit_is)
      · refine' UP.p2_mk KX G ?a ?b ?k; (case a => k_is); (case b => k_is); (case k => kit_is)
      · refine' UP.p2_mk KX G ?a ?b ?k; (case a => k_is); (case b => k_is); (case k => kit_is)
      · refine' UP.p2_mk KX G ?a ?b ?k; (case a => k_is); (case b => k_is); (case k => kit_is)
      · refine' UP.p2_mk KX G ?a ?b ?k; (case a => k_is); (case b => k_is); (case k => kit_is)
      · refine' UP.p2_mk KX G ?a ?b ?k; (case a => k_is); (case b => k_is); (case k => kit_is)
      · refine' UP.p2_mk KX G ?a ?b ?k; (case a => k_is); (case b => k_is); (case k => kit_is)
      · refine' UP.p2_mk KX G ?a ?b ?k; (case a => k_is); (case b => k_is); (case k => kit_is)
      · refine' UP.df_mk KX G ?a ?l ?c ?k; (case a => k_is); (case l => k_is); (case c => k_is); (case k => k_is)
      · refine' UP.df_mk KX G ?a ?l ?c ?k; (case a => k_is); (case l => k_is); (case c => k_is); (case k => k_is)
      · refine' UP.df_mk KX G ?a ?l ?c ?k; (case a => k_is); (case l => k_is); (case c => k_is); (case k => k_is)
      · refine' UP.df_mk KX G ?a ?l ?c ?k; (case a => k_is); (case l => k_is); (case c => k_is); (case k => k_is)
      · refine' UP.df_mk KX G ?a ?l ?c ?k; (case a => k_is); (case l => k_is); (case c => k_is); (case k => k_is)
      · refine' UP.df_mk KX G ?a ?l ?c ?k; (case a => k_is); (case l => k_is); (case c => k_is); (case k => k_is)
      · refine' UP.df_mk KX G ?a ?l ?c ?k; (case a => k_is); (case l => k_is); (case c => k_is); (case k => k_is)
      · refine' UP.df_mk KX G ?a ?l ?c ?k; (case a => k_is); (case l => k_is); (case c => k_is); (case k => k_is)
      · refine' UP.df_mk KX G ?a ?l ?c ?k; (case a => k_is); (case l => k_is); (case c => k_is); (case k => k_is)
      · refine' UP.df_mk KX G ?a ?l ?c ?k; (case a => k_is); (case l => k_is); (case c => k_is); (case k => k_is)
      · refine' UP.df_mk KX G ?a ?l ?c ?k; (case a => k_is); (case l => k_is); (case c => k_is); (case k => k_is)
      · refine' UP.df_mk KX G ?a ?l ?c ?k; (case a => k_is); (case l => k_is); (case c => k_is); (case k => k_is)
      · refine' UP.df_mk KX G ?a ?l ?c ?k; (case a => k_is); (case l => k_is); (case c => k_is); (case k => k_is)
      · refine' UP.df_mk KX G ?a ?l ?c ?k; (case a => k_is); (case l => k_is); (case c => k_is); (case k => k_is)
      · refine' UP.df_mk KX G ?a ?l ?c ?k; (case a => k_is); (case l => k_is); (case c => k_is); (case k => k_is)
      · refine' UP.df_mk KX G ?a ?l ?c ?k; (case a => k_is); (case l => k_is); (case c => k_is); (case k => k_is)
      · refine' UP.df_mk KX G ?a ?l ?c ?k; (case a => k_is); (case l => k_is); (case c => k_is); (case k => k_is)
      · refine' UP.df_mk KX G ?a ?l ?c ?k; (case a => k_is); (case l => k_is); (case c => k_is); (case k => k_is)
      · refine' UP.df_mk KX G ?a ?l ?c ?k; (case a => k_is); (case l => k_is); (case c => k_is); (case k => k_is)
      · refine' UP.df_mk KX G ?a ?l ?c ?k; (case a => k_is); (case l => k_is); (case c => k_is); (case k => k_is)
      · refine' UP.df_mk KX G ?a ?l ?c ?k; (case a => k_is); (case l => k_is); (case c => k_is); (case k => k_is)
      · refine' UP.df_mk KX G ?a ?l ?c ?k; (case a => k_is); (case l => k_is); (case c => k_is); (case k => k_is)
      · refine' UP.df_mk KX G ?a ?l ?c ?k; (case a => k_is); (case l => k_is); (case c => k_is); (case k => k_is)
      · refine' UP.df_mk KX G ?a ?l ?c ?k; (case a => k_is); (case l => k_is); (case c => k_is); (case k => k_is)
      · refine' UP.df_mk KX G ?a ?l ?c ?k; (case a => k_is); (case l => k_is); (case c => k_is); (case k => k_is)
      · refine' UP.df_mk KX G ?a ?l ?c ?k; (case a => k_is); (case l => k_is); (case c => k_is); (case k => k_is)
      · refine' UP.df_mk KX G ?a ?l ?c ?k; (case a => k_is); (case l => k_is); (case c => k_is); (case k => k_is)
      · refine' UP.df_mk KX G ?a ?l ?c ?k; (case a => k_is); (case l => k_is); (case c => k_is); (case k => k_is)
      · refine' UP.df_mk KX G ?a ?l ?c ?k; (case a => k_is); (case l => k_is); (case c => k_is); (case k => k_is)
      · refine' UP.df_mk KX G ?a ?l ?c ?k; (case a => k_is); (case l => k_is); (case c => k_is); (case k => k_is)
      · refine' UP.df_mk KX G ?a ?l ?c ?k; (case a => k_is); (case l => k_is); (case c => k_is); (case k => k_is)
      · refine' UP.df_mk KX G ?a ?l ?c ?k; (case a => k_is); (case l => k_is); (case c => k_is); (case k => k_is)
      · refine' UP.df_mk KX G ?a ?l ?c ?k; (case a => k_is); (case l => k_is); (case c => k_is); (case k => k_is)
      · refine' UP.df_mk KX G ?a ?l ?c ?k; (case a => k_is); (case l => k_is); (case c => k_is); (case k => k_is)
      · refine' UP.df_mk KX G ?a ?l ?c ?k; (case a => k_is); (case l => k_is); (case c => k_is); (case k => k_is)
